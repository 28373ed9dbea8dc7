import PyProof.Rows.All
import Wide.All
import OpenK.AllK
import Wide.FinOn
import Lean
import PyProof.EqAt
import PyProof.EqKinds
import PyProof.TupleCall
import PyProof.NeData
import Wide.Seal
import Wide.OfPy
import KE.KSetDisp
import PyProof.DictCompW
import PyProof.EnumMake
import PyProof.Draws
import PyProof.ListMulRoad
import PySem.Challenge.RW_ledpast_k05_names_ways_heads
set_option maxHeartbeats 8000000
set_option Elab.async false
set_option linter.all false
set_option maxRecDepth 100000
namespace dn
open PySem PyProof.Rows
def uG:Bool->Keyed->Array Keyed->Nat->Nat->Nat->StateT SortSt Sem (Option Nat):=sortPriv% PySem.Builtin.gallop
def vk:Array Keyed->Array Keyed->StateT SortSt Sem (Array Keyed):=sortPriv% PySem.Builtin.mergeLo
def vm:Array Keyed->Array Keyed->StateT SortSt Sem (Array Keyed):=sortPriv% PySem.Builtin.mergeHi
def kn (p:Keyed):Int:=numOf p.1
def cJ (p:Keyed):Prop:=∃ n t,p.1=.int n t
section
variable {prog:Program} {w:World} {A:Around} {E:Value->Shared->Prop} {s:Shared} {st:SortSt}
theorem iG {x y:Keyed} {Q:Option Bool->SortSt->Prop} (hk:kindOf st=oneType') (hx:cJ x) (hy:cJ y) (h:Q (some (decide (kn x < kn y))) st):wpS (model prog w) A E s (lt' x y) Q st:=by
 obtain⟨n,t,e⟩:=hx
 obtain⟨m,u,f⟩:=hy
 unfold kn at h
 rw [e,f] at h
 rw [lt'_eq]
 refine wpS_bind (wpS_get ?_)
 rw [hk,keyLt'_oneType,e,f]
 exact wpS_bind (wpS_lift (wpAny_attempt (oneLt_int ⟨rfl,wpS_pure h⟩)))
theorem aA {xs:Array Keyed} {i:Nat} {p:Keyed} {Q:Keyed->SortSt->Prop} (e:xs[i]? = some p) (h:Q p st):wpS (model prog w) A E s (elem' xs i) Q st:=by
 rw [elem'_eq,e]
 exact wpS_pure h
theorem se {left:Bool} {key:Keyed} {arr:Array Keyed} {base n hint:Nat} {B:Nat->Bool} {Q:Option Nat->SortSt->Prop} (hk:kindOf st=oneType') (hkey:cJ key)
  (harr:∀ i,i < n->∃ p,arr[base+i]? = some p/\cJ p/\B i=(if left then decide (kn p < kn key) else !decide (kn key < kn p))) (anti:∀ i j,i<=j->j < n->B j=true->B i=true) (hh:hint < n)
  (h:∀ k,k<=n->(∀ i,i < n->(B i=true ↔ i < k))->Q (some k) st):wpS (model prog w) A E s (uG left key arr base n hint) Q st:=by
 have hb:∀ (i:Nat) (R:Option Bool->SortSt->Prop),i < n->R (some (B i)) st->wpS (model prog w) A E s (do let x <-elem' arr (base+i);if left=true then lt' x key else do let r <-lt' key x;pure (r.map (!·))) R st:=by
  intro i R hi hR
  obtain⟨p,e,hp,eB⟩:=harr i hi
  refine wpS_bind (aA e ?_)
  cases left with
  | true=>rw [eB] at hR;exact iG hk hp hkey hR
  | false=>rw [eB] at hR;exact wpS_bind (iG hk hkey hp (wpS_pure hR))
 refine wpS_bind (hb hint _ hh ?_)
 dsimp only
 have fin:∀ lo hi,lo<=hi->hi<=n->(∀ i,i < lo->i < n->B i=true)->(∀ i,hi<=i->i < n->B i=false)->∀ R:Option (Option Nat) × Nat × Nat->SortSt->Prop,
   (∀ k,k<=n->(∀ i,i < n->(B i=true ↔ i < k))->R (none,k,k) st) ->
   wpS (model prog w) A E s (forIn [0:n] ((none,lo,hi):Option (Option Nat) × Nat × Nat) fun _ c=>if c.2.1 >= c.2.2 then pure (ForInStep.done (none,c.2.1,c.2.2)) else do
    let z <-(do let x <-elem' arr (base+(c.2.1+(c.2.2 - c.2.1) / 2));if left=true then lt' x key else do let r <-lt' key x;pure (r.map (!·)))
    match z with
    | some more=>if more=true then pure (ForInStep.yield (none,c.2.1+(c.2.2 - c.2.1) / 2+1,c.2.2)) else pure (ForInStep.yield (none,c.2.1,c.2.1+(c.2.2 - c.2.1) / 2))
    | _=>pure (ForInStep.done (some none,c.2.1,c.2.2))) R st:=by
  intro lo hi hlh hhn hlo hhi R hR
  have out:∀ k,k<=n->(∀ i,i < k->i < n->B i=true)->(∀ i,k<=i->i < n->B i=false)->R (none,k,k) st:=fun k hkn h1 h2=>hR k hkn fun i hi=>by
   constructor
   ·intro hB
    rcases Nat.lt_or_ge i k with h' | h'
    ·exact h'
    ·rw [h2 i h' hi] at hB
     cases hB
   ·exact fun h'=>h1 i h' hi
  refine wpS_forRange (I:=fun x c st'=>st' = st/\∃ lo hi,c=(none,lo,hi)/\lo<=hi/\hi<=n/\hi - lo<=n - x/\(∀ i,i < lo->i < n->B i=true)/\(∀ i,hi<=i->i < n->B i=false)) ?_ ?_ ⟨rfl,lo,hi,rfl,hlh,hhn,by omega,hlo,hhi⟩
  ·rintro x c st' _ hx ⟨rfl,lo,hi,rfl,h1,h2,h3,h4,h5⟩
   dsimp only
   by_cases hge:lo >= hi
   ·rw [if_pos hge]
    obtain rfl:lo=hi:=by omega
    exact wpS_pure (out lo h2 h4 h5)
   ·rw [if_neg hge]
    refine wpS_bind (hb _ _ (by omega) ?_)
    dsimp only
    cases hB:B (lo+(hi - lo) / 2) with
    | true =>
     rw [if_pos rfl]
     exact wpS_pure ⟨rfl,_,_,rfl,by omega,h2,by omega,fun i hi' hin=>anti i (lo+(hi - lo) / 2) (by omega) (by omega) hB,h5⟩
    | false =>
     rw [if_neg (by decide)]
     refine wpS_pure ⟨rfl,_,_,rfl,by omega,by omega,by omega,h4,fun i hi' hin=>?_⟩
     cases hBi:B i with
     | false=>rfl
     | true=>rw [anti _ i hi' hin hBi] at hB;cases hB
  ·rintro c st' ⟨rfl,lo,hi,rfl,h1,h2,h3,h4,h5⟩
   obtain rfl:lo=hi:=by omega
   exact out lo h2 h4 h5
 have last:∀ lo hi,lo<=hi->hi<=n->(∀ i,i < lo->i < n->B i=true)->(∀ i,hi<=i->i < n->B i=false)->∀ (R:Option (Option Nat) × Nat × Nat->StateT SortSt Sem (Option Nat)),
   (∀ k,R (none,k,k)=pure (some k))->wpS (model prog w) A E s (forIn [0:n] ((none,lo,hi):Option (Option Nat) × Nat × Nat) (fun _ c=>if c.2.1 >= c.2.2 then pure (ForInStep.done (none,c.2.1,c.2.2)) else do
    let z <-(do let x <-elem' arr (base+(c.2.1+(c.2.2 - c.2.1) / 2));if left=true then lt' x key else do let r <-lt' key x;pure (r.map (!·)))
    match z with
    | some more=>if more=true then pure (ForInStep.yield (none,c.2.1+(c.2.2 - c.2.1) / 2+1,c.2.2)) else pure (ForInStep.yield (none,c.2.1,c.2.1+(c.2.2 - c.2.1) / 2))
    | _=>pure (ForInStep.done (some none,c.2.1,c.2.2))) >>= R) Q st:=fun lo hi h1 h2 h3 h4 R hR=>by
  refine wpS_bind (fin lo hi h1 h2 h3 h4 _ fun k hkn hkB=>?_)
  rw [hR k]
  exact wpS_pure (h k hkn hkB)
 cases hB0:B hint with
 | true =>
  rw [if_pos rfl]
  refine wpS_bind (wpS_mono (wpS_forRange (I:=fun x c st'=>st' = st/\∃ lastofs ofs,c=(none,lastofs,ofs)/\lastofs < ofs/\x < ofs/\hint+lastofs < n/\B (hint+lastofs)=true)
   (Q:=fun c st'=>st' = st/\∃ lastofs ofs,c=(none,lastofs,ofs)/\lastofs < ofs/\hint+lastofs < n/\B (hint+lastofs)=true/\(n - hint<=ofs\/B (hint+ofs)=false)) ?_ ?_ ⟨rfl,0,1,rfl,by omega,by omega,by omega,hB0⟩) ?_)
  ·rintro x c st' _ hx ⟨rfl,la,of,rfl,h1,h2,h3,h4⟩
   dsimp only
   by_cases hge:of >= n - hint
   ·rw [if_pos hge]
    exact wpS_pure ⟨rfl,_,_,rfl,h1,h3,h4,.inl hge⟩
   ·rw [if_neg hge]
    refine wpS_bind (hb _ _ (by omega) ?_)
    dsimp only
    cases hB:B (hint+of) with
    | true =>
     rw [if_neg (by decide)]
     exact wpS_pure ⟨rfl,_,_,rfl,by omega,by omega,by omega,hB⟩
    | false =>
     rw [if_pos (show (!false)=true from rfl)]
     exact wpS_pure ⟨rfl,_,_,rfl,h1,h3,h4,.inr hB⟩
  ·rintro c st' ⟨rfl,la,of,rfl,h1,h2,h3,h4⟩
   exact⟨rfl,_,_,rfl,h1,h3,h4,.inl (by omega)⟩
  ·rintro c st' ⟨rfl,la,of,rfl,h1,h3,h4,h5⟩
   dsimp only
   refine last _ _ (by omega) (by omega) (fun i hi hin=>anti i (hint+la) (by omega) h3 h4) (fun i hi hin=>?_) _ (fun k=>rfl)
   rcases h5 with h5 | h5
   ·omega
   ·cases hBi:B i with
    | false=>rfl
    | true =>
     by_cases hx:n - hint<=of
     ·omega
     ·rw [anti (hint+of) i (by omega) hin hBi] at h5;cases h5
 | false =>
  rw [if_neg (by decide)]
  refine wpS_bind (wpS_mono (wpS_forRange (I:=fun x c st'=>st' = st/\∃ lastofs ofs,c=(none,lastofs,ofs)/\lastofs < ofs/\x < ofs/\lastofs<=hint/\B (hint - lastofs)=false)
   (Q:=fun c st'=>st' = st/\∃ lastofs ofs,c=(none,lastofs,ofs)/\lastofs < ofs/\lastofs<=hint/\B (hint - lastofs)=false/\(hint+1<=ofs\/B (hint - ofs)=true)) ?_ ?_ ⟨rfl,0,1,rfl,by omega,by omega,by omega,hB0⟩) ?_)
  ·rintro x c st' _ hx ⟨rfl,la,of,rfl,h1,h2,h3,h4⟩
   dsimp only
   by_cases hge:of >= hint+1
   ·rw [if_pos hge]
    exact wpS_pure ⟨rfl,_,_,rfl,h1,h3,h4,.inl hge⟩
   ·rw [if_neg hge]
    refine wpS_bind (hb _ _ (by omega) ?_)
    dsimp only
    cases hB:B (hint - of) with
    | true =>
     rw [if_pos rfl]
     exact wpS_pure ⟨rfl,_,_,rfl,h1,h3,h4,.inr hB⟩
    | false =>
     rw [if_neg (by decide)]
     exact wpS_pure ⟨rfl,_,_,rfl,by omega,by omega,by omega,hB⟩
  ·rintro c st' ⟨rfl,la,of,rfl,h1,h2,h3,h4⟩
   exact⟨rfl,_,_,rfl,h1,h3,h4,.inl (by omega)⟩
  ·rintro c st' ⟨rfl,la,of,rfl,h1,h3,h4,h5⟩
   dsimp only
   refine last _ _ (by omega) (by omega) (fun i hi hin=>?_) (fun i hi hin=>?_) _ (fun k=>rfl)
   ·rcases h5 with h5 | h5
    ·omega
    ·by_cases hx:hint+1<=of
     ·omega
     ·exact anti i (hint - of) (by omega) (by omega) h5
   ·cases hBi:B i with
    | false=>rfl
    | true=>rw [anti (hint - la) i hi hin hBi] at h4;cases h4
end
end dn
namespace dn
open PySem PyProof.Rows
abbrev bp (l:List Keyed):Prop:=l.Pairwise fun x y=>kn x<=kn y
structure MI (T o ra rb:List Keyed):Prop where
 perm:(o++(ra++rb)).Perm T
 so:bp o
 sa:bp ra
 sb:bp rb
 oa:∀ x ∈ o,∀ y ∈ ra,kn x<=kn y
 ob:∀ x ∈ o,∀ y ∈ rb,kn x<=kn y
theorem MI.iH {T o c ra rb:List Keyed} (h:MI T o (c++ra) rb) (hc:∀ x ∈ c,∀ y ∈ rb,kn x<=kn y):MI T (o++c) ra rb:=by
 obtain⟨s1,s2,s3⟩:=List.pairwise_append.mp h.sa
 refine⟨?_,?_,s2,h.sb,?_,?_⟩
 ·have:=h.perm
  rw [List.append_assoc] at this ⊢
  exact this
 ·exact List.pairwise_append.mpr ⟨h.so,s1,fun x hx y hy=>h.oa x hx y (List.mem_append_left _ hy)⟩
 ·intro x hx y hy
  rcases List.mem_append.mp hx with hx | hx
  ·exact h.oa x hx y (List.mem_append_right _ hy)
  ·exact s3 x hx y hy
 ·intro x hx y hy
  rcases List.mem_append.mp hx with hx | hx
  ·exact h.ob x hx y hy
  ·exact hc x hx y hy
theorem MI.iI {T o c ra rb:List Keyed} (h:MI T o ra (c++rb)) (hc:∀ x ∈ c,∀ y ∈ ra,kn x<=kn y):MI T (o++c) ra rb:=by
 obtain⟨s1,s2,s3⟩:=List.pairwise_append.mp h.sb
 refine⟨?_,?_,h.sa,s2,?_,?_⟩
 ·refine List.Perm.trans ?_ h.perm
  rw [List.append_assoc]
  refine List.Perm.append_left o ?_
  rw [<-List.append_assoc,<-List.append_assoc]
  exact List.Perm.append_right rb List.perm_append_comm
 ·exact List.pairwise_append.mpr ⟨h.so,s1,fun x hx y hy=>h.ob x hx y (List.mem_append_left _ hy)⟩
 ·intro x hx y hy
  rcases List.mem_append.mp hx with hx | hx
  ·exact h.oa x hx y hy
  ·exact hc x hx y hy
 ·intro x hx y hy
  rcases List.mem_append.mp hx with hx | hx
  ·exact h.ob x hx y (List.mem_append_right _ hy)
  ·exact s3 x hx y hy
def Laid (T:List Keyed) (m:Array Keyed):Prop:=m.toList.Perm T/\bp m.toList
theorem MI.cP {T o ra:List Keyed} {m:Array Keyed} (h:MI T o ra []) (e:m.toList=o++ra):Laid T m:=by
 refine⟨?_,?_⟩
 ·rw [e]
  have:=h.perm
  rwa [List.append_nil] at this
 ·rw [e]
  exact List.pairwise_append.mpr ⟨h.so,h.sa,h.oa⟩
theorem MI.cQ {T o rb:List Keyed} {m:Array Keyed} (h:MI T o [] rb) (e:m.toList=o++rb):Laid T m:=by
 refine⟨?_,?_⟩
 ·rw [e]
  exact h.perm
 ·rw [e]
  exact List.pairwise_append.mpr ⟨h.so,h.sb,h.ob⟩
theorem MI.dQ {T o ra rb:List Keyed} {m:Array Keyed} (h:MI T o ra rb) (hl:∀ x ∈ ra,∀ y ∈ rb,kn y<=kn x) (e:m.toList=o++rb++ra):Laid T m:=by
 refine⟨?_,?_⟩
 ·rw [e,List.append_assoc]
  exact (List.Perm.append_left o List.perm_append_comm).trans h.perm
 ·rw [e,List.append_assoc]
  refine List.pairwise_append.mpr ⟨h.so,List.pairwise_append.mpr ⟨h.sb,h.sa,fun x hx y hy=>hl y hy x hx⟩,fun x hx y hy=>?_⟩
  rcases List.mem_append.mp hy with hy | hy
  ·exact h.ob x hx y hy
  ·exact h.oa x hx y hy
theorem drop_cons {a:Array Keyed} {i:Nat} {x:Keyed} (e:a[i]? = some x):a.toList.drop i=x :: a.toList.drop (i+1):=by
 have hi:i < a.toList.length:=by
  obtain⟨h,_⟩:=Array.getElem?_eq_some_iff.mp e
  simpa using h
 rw [List.drop_eq_getElem_cons hi]
 congr 1
 have:a.toList[i]? = some x:=by rw [Array.getElem?_toList];exact e
 rw [List.getElem?_eq_getElem hi] at this
 exact Option.some.inj this
theorem dt (a:Array Keyed) (i:Nat):(a.extract i a.size).toList=a.toList.drop i:=by
 rw [Array.toList_extract,List.extract_eq_take_drop]
 exact List.take_of_length_le (by rw [List.length_drop,Array.length_toList];exact Nat.le_refl _)
theorem gC (a:Array Keyed) (i k:Nat):(a.extract i (i+k)).toList=(a.toList.drop i).take k:=by
 rw [Array.toList_extract,List.extract_eq_take_drop,Nat.add_sub_cancel_left]
theorem MI.cH {T ra rb:List Keyed} {out a:Array Keyed} {i:Nat} {x:Keyed} (h:MI T out.toList (a.toList.drop i) rb) (e:a[i]? = some x) (hc:∀ y ∈ rb,kn x<=kn y):MI T (out.push x).toList (a.toList.drop (i+1)) rb:=by
 rw [drop_cons e] at h
 rw [Array.toList_push]
 exact MI.iH (c:=[x]) h fun z hz y hy=>by rw [List.mem_singleton.mp hz];exact hc y hy
theorem MI.eE {T ra:List Keyed} {out b:Array Keyed} {i:Nat} {x:Keyed} (h:MI T out.toList ra (b.toList.drop i)) (e:b[i]? = some x) (hc:∀ y ∈ ra,kn x<=kn y):MI T (out.push x).toList ra (b.toList.drop (i+1)):=by
 rw [drop_cons e] at h
 rw [Array.toList_push]
 exact MI.iI (c:=[x]) h fun z hz y hy=>by rw [List.mem_singleton.mp hz];exact hc y hy
theorem MI.pG {T rb:List Keyed} {out a:Array Keyed} {i k:Nat} (h:MI T out.toList (a.toList.drop i) rb) (hc:∀ x ∈ (a.toList.drop i).take k,∀ y ∈ rb,kn x<=kn y):MI T (out++a.extract i (i+k)).toList (a.toList.drop (i+k)) rb:=by
 rw [Array.toList_append,gC]
 refine MI.iH ?_ hc
 rw [<-List.drop_drop,List.take_append_drop]
 exact h
theorem MI.j6 {T ra:List Keyed} {out b:Array Keyed} {i k:Nat} (h:MI T out.toList ra (b.toList.drop i)) (hc:∀ x ∈ (b.toList.drop i).take k,∀ y ∈ ra,kn x<=kn y):MI T (out++b.extract i (i+k)).toList ra (b.toList.drop (i+k)):=by
 rw [Array.toList_append,gC]
 refine MI.iI ?_ hc
 rw [<-List.drop_drop,List.take_append_drop]
 exact h
theorem bp.head {x:Keyed} {l:List Keyed} (h:bp (x :: l)):∀ y ∈ x :: l,kn x<=kn y:=by
 intro y hy
 rcases List.mem_cons.mp hy with rfl | hy
 ·exact Int.le_refl _
 ·exact (List.pairwise_cons.mp h).1 y hy
theorem bp.get {l:List Keyed} (h:bp l) {i j:Nat} {x y:Keyed} (hij:i<=j) (hi:l[i]? = some x) (hj:l[j]? = some y):kn x<=kn y:=by
 rcases Nat.lt_or_ge i j with h' | h'
 ·obtain⟨h1,rfl⟩:=List.getElem?_eq_some_iff.mp hi
  obtain⟨h2,rfl⟩:=List.getElem?_eq_some_iff.mp hj
  exact List.pairwise_iff_getElem.mp h i j h1 h2 h'
 ·obtain rfl:i=j:=by omega
  rw [hi] at hj
  cases hj
  exact Int.le_refl _
abbrev cm (a:Array Keyed) (i n:Nat):List Keyed:=(a.toList.drop i).take n
theorem eW {a:Array Keyed} {base n i:Nat} (hi:i < n):(cm a base n)[i]? = a[base+i]?:=by
 rw [List.getElem?_take_of_lt hi,List.getElem?_drop,Array.getElem?_toList]
section
variable {prog:Program} {w:World} {A:Around} {E:Value->Shared->Prop} {s:Shared} {st:SortSt}
theorem cL {left:Bool} {key:Keyed} {arr:Array Keyed} {base n hint:Nat} {Q:Option Nat->SortSt->Prop} (hk:kindOf st=oneType') (hkey:cJ key) (hn:base+n<=arr.size) (hi:∀ p ∈ cm arr base n,cJ p) (hs:bp (cm arr base n)) (hh:hint < n)
  (h:∀ k,k<=n->(∀ x ∈ (cm arr base n).take k,if left then kn x < kn key else kn x<=kn key)->(∀ x ∈ (cm arr base n).drop k,if left then kn key<=kn x else kn key < kn x)->Q (some k) st):wpS (model prog w) A E s (uG left key arr base n hint) Q st:=by
 have hat:∀ i,i < n->∃ p,arr[base+i]? = some p/\(cm arr base n)[i]? = some p:=fun i hi'=>by
  have h1:base+i < arr.size:=by omega
  exact⟨_,getElem?_pos arr (base+i) h1,(eW hi').trans (getElem?_pos arr (base+i) h1)⟩
 have hlen:(cm arr base n).length=n:=by
  rw [List.length_take,List.length_drop,Array.length_toList]
  omega
 let B:Nat->Bool:=fun i=>match arr[base+i]? with | some p=>if left then decide (kn p < kn key) else !decide (kn key < kn p) | none=>false
 have hB:∀ i p,arr[base+i]? = some p->B i=(if left then decide (kn p < kn key) else !decide (kn key < kn p)):=fun i p e=>by
  show (match arr[base+i]? with | some p=>if left then decide (kn p < kn key) else !decide (kn key < kn p) | none=>false)=_
  rw [e]
 refine se (B:=B) hk hkey (fun i hi'=>?_) (fun i j hij hj hBj=>?_) hh fun k hkn hkB=>?_
 ·obtain⟨p,e1,e2⟩:=hat i hi'
  exact⟨p,e1,hi p (List.mem_of_getElem? e2),hB i p e1⟩
 ·obtain⟨p,e1,e2⟩:=hat i (by omega)
  obtain⟨q,f1,f2⟩:=hat j hj
  have hle:=hs.get hij e2 f2
  rw [hB i p e1]
  rw [hB j q f1] at hBj
  cases left with
  | true =>
   have:=of_decide_eq_true (show decide (kn q < kn key)=true from hBj)
   exact decide_eq_true (by omega)
  | false =>
   have h1:¬ kn key < kn q:=fun z=>by
    rw [if_neg (by decide),decide_eq_true z] at hBj
    cases hBj
   rw [if_neg (by decide),decide_eq_false (by omega)]
   rfl
 ·refine h k hkn (fun x hx=>?_) (fun x hx=>?_)
  ·obtain⟨i,hi'⟩:=List.getElem?_of_mem hx
   have hik:i < k:=by
    rcases Nat.lt_or_ge i k with h' | h'
    ·exact h'
    ·rw [List.getElem?_eq_none (by rw [List.length_take];omega)] at hi'
     cases hi'
   rw [List.getElem?_take_of_lt hik,eW (by omega)] at hi'
   have:=(hkB i (by omega)).mpr hik
   rw [hB i x hi'] at this
   cases left with
   | true=>exact of_decide_eq_true this
   | false =>
    rw [if_neg (by decide)] at this ⊢
    rcases Int.lt_or_le (kn key) (kn x) with h' | h'
    ·rw [decide_eq_true h'] at this;cases this
    ·exact h'
  ·obtain⟨i,hi'⟩:=List.getElem?_of_mem hx
   rw [List.getElem?_drop] at hi'
   have hin:k+i < n:=by
    rcases Nat.lt_or_ge (k+i) n with h' | h'
    ·exact h'
    ·rw [List.getElem?_eq_none (by rw [hlen];exact h')] at hi'
     cases hi'
   rw [eW hin] at hi'
   have hno:¬ B (k+i)=true:=fun z=>by have:=(hkB (k+i) hin).mp z;omega
   rw [hB _ x hi'] at hno
   cases left with
   | true =>
    rw [if_pos rfl] at hno ⊢
    rcases Int.lt_or_le (kn x) (kn key) with h' | h'
    ·exact absurd (decide_eq_true h') hno
    ·exact h'
   | false =>
    rw [if_neg (by decide)] at hno ⊢
    rcases Int.lt_or_le (kn key) (kn x) with h' | h'
    ·exact h'
    ·exact absurd (by rw [decide_eq_false (by omega)];rfl) hno
end
end dn
namespace dn
open PySem PyProof.Rows
def Gm (st st':SortSt):Prop:=∃ g,st' = SortSt.mk' (kindOf st) (arrOf st) (pendingOf st) g (failedOf st)
theorem Gm.refl (st:SortSt):Gm st st:=⟨gallopOf st,rfl⟩
theorem Gm.kind {st st':SortSt} (h:Gm st st'):kindOf st' = kindOf st:=by obtain⟨g,rfl⟩:=h;rfl
theorem Gm.set {st st':SortSt} (h:Gm st st') (g:Nat):Gm st (SortSt.mk' (kindOf st') (arrOf st') (pendingOf st') g (failedOf st')):=by obtain⟨g',rfl⟩:=h;exact⟨g,rfl⟩
theorem ij {a:Array Keyed} {i n:Nat} (h:i+n=a.size):cm a i n=a.toList.drop i:=List.take_of_length_le (by rw [List.length_drop,Array.length_toList];omega)
theorem d6 {a:Array Keyed} {i:Nat} (h:i=a.size):a.toList.drop i = []:=List.drop_eq_nil_of_le (by rw [Array.length_toList];omega)
theorem bI {a:Array Keyed} {i:Nat} (h:i < a.size):∃ x,a[i]? = some x/\x ∈ a.toList:=⟨a[i],getElem?_pos a i h,by simp⟩
section
variable {prog:Program} {w:World} {A:Around} {E:Value->Shared->Prop} {s:Shared} {st:SortSt}
theorem sf {a b:Array Keyed} {Q:Array Keyed->SortSt->Prop} (hk:kindOf st=oneType') (ha:∀ p ∈ a.toList,cJ p) (hb:∀ p ∈ b.toList,cJ p) (sa:bp a.toList) (sb:bp b.toList) (za:0 < a.size) (zb:0 < b.size)
  (h0:∀ y,b[0]? = some y->∀ x ∈ a.toList,kn y<=kn x) (h1:∀ i,i+1=a.size->∀ x ∈ a.toList.drop i,∀ y ∈ b.toList,kn y<=kn x)
  (h:∀ m st',Gm st st'->Laid (a.toList++b.toList) m->Q m st'):wpS (model prog w) A E s (vk a b) Q st:=by
 have dQ:∀ {out:Array Keyed} {ia ib:Nat},MI (a.toList++b.toList) out.toList (a.toList.drop ia) (b.toList.drop ib)->ia+1=a.size->Laid (a.toList++b.toList) (out++b.extract ib b.size++a.extract ia a.size):=fun {out ia ib} hM e =>
  hM.dQ (fun x hx y hy=>h1 ia e x hx y (List.mem_of_mem_drop hy)) (by rw [Array.toList_append,Array.toList_append,dt,dt])
 have cQ:∀ {out:Array Keyed} {ia ib:Nat},MI (a.toList++b.toList) out.toList (a.toList.drop ia) (b.toList.drop ib)->ib=b.size->Laid (a.toList++b.toList) (out++a.extract ia a.size++b.extract ib b.size):=fun {out ia ib} hM e=>by
  rw [d6 e] at hM
  exact hM.cP (by rw [Array.toList_append,Array.toList_append,dt,dt,d6 e,List.append_nil])
 have cP:∀ {out:Array Keyed} {ia ib:Nat},MI (a.toList++b.toList) out.toList (a.toList.drop ia) (b.toList.drop ib)->ia=a.size->Laid (a.toList++b.toList) (out++a.extract ia a.size++b.extract ib b.size):=fun {out ia ib} hM e=>by
  rw [d6 e] at hM
  exact hM.cQ (by rw [Array.toList_append,Array.toList_append,dt,dt,d6 e,List.append_nil])
 refine wpS_bind (wpS_lift (wpAny_rule ⟨rfl,?_⟩))
 dsimp only
 obtain⟨y0,ey0,my0⟩:=bI zb
 refine wpS_bind (aA ey0 ?_)
 have hM0:MI (a.toList++b.toList) (#[y0]:Array Keyed).toList (a.toList.drop 0) (b.toList.drop 1) :=
  MI.eE (out:=#[]) (i:=0) ⟨List.Perm.refl _,List.Pairwise.nil,sa,sb,(fun x hx=>nomatch hx),(fun x hx=>nomatch hx)⟩ ey0 (h0 y0 ey0)
 by_cases e1:1=b.size
 ·rw [if_pos (by simpa using e1)]
  exact wpS_pure (h _ _ (Gm.refl st) (cQ hM0 e1))
 rw [if_neg (by simpa using e1)]
 by_cases e2:0+1=a.size
 ·rw [if_pos (by simpa using e2)]
  exact wpS_pure (h _ _ (Gm.refl st) (dQ hM0 e2))
 rw [if_neg (by simpa using e2)]
 refine wpS_bind (wpS_get ?_)
 refine wpS_bind (wpS_mono (wpS_forRange (I:=fun x c st'=>Gm st st'/\∃ out ia ib mg,c=(none,out,ia,ib,mg)/\MI (a.toList++b.toList) out.toList (a.toList.drop ia) (b.toList.drop ib)/\ia+1 < a.size/\ib < b.size/\x+1<=ia+ib)
  (Q:=fun c st'=>Gm st st'/\∃ m,c.1=some m/\Laid (a.toList++b.toList) m) ?_ ?_ ⟨Gm.refl st,_,_,_,_,rfl,hM0,by omega,by omega,by omega⟩) ?_)
 rotate_left
 ·rintro c st' ⟨_,out,ia,ib,mg,rfl,_,h1,h2,h3⟩
  omega
 ·rintro⟨c,c2⟩ st' ⟨hG,m,e,hL⟩
  cases (show c=some m from e)
  exact wpS_pure (h _ _ hG hL)
 rintro x c st' _ hx ⟨hG,out,ia,ib,mg,rfl,hM,hia,hib,hxx⟩
 dsimp only
 refine wpS_bind (wpS_mono (wpS_forRange (I:=fun x1 c st'=>Gm st st'/\∃ out ia' ib' ac bc,c=(none,out,ia',ib',ac,bc)/\MI (a.toList++b.toList) out.toList (a.toList.drop ia') (b.toList.drop ib')/\ia' + 1 < a.size/\ib' < b.size/\ia+ib+x1<=ia' + ib')
  (Q:=fun c st'=>Gm st st'/\((∃ m,c.1=some m/\Laid (a.toList++b.toList) m)\/∃ out ia' ib' ac bc,c=(none,out,ia',ib',ac,bc)/\MI (a.toList++b.toList) out.toList (a.toList.drop ia') (b.toList.drop ib')/\ia' + 1 < a.size/\ib' < b.size/\ia+ib+1<=ia' + ib')) ?_ ?_ ⟨hG,_,_,_,_,_,rfl,hM,hia,hib,by omega⟩) ?_)
 ·clear hM hG
  rintro x1 c st' _ hx1 ⟨hG,out,ia',ib',ac,bc,rfl,hM,hia',hib',hx'⟩
  dsimp only
  obtain⟨y,ey,my⟩:=bI hib'
  obtain⟨z,ez,mz⟩:=bI (show ia' < a.size by omega)
  have hy:∀ q ∈ b.toList.drop ib',kn y<=kn q:=by rw [drop_cons ey];exact bp.head (by rw [<-drop_cons ey];exact hM.sb)
  have hz:∀ q ∈ a.toList.drop ia',kn z<=kn q:=by rw [drop_cons ez];exact bp.head (by rw [<-drop_cons ez];exact hM.sa)
  refine wpS_bind (aA ey (wpS_bind (aA ez (wpS_bind (iG (hG.kind.trans hk) (hb y my) (ha z mz) ?_)))))
  dsimp only
  by_cases hlt:kn y < kn z
  ·rw [decide_eq_true hlt,if_pos rfl]
   have hM':=hM.eE ey fun q hq=>Int.le_trans (Int.le_of_lt hlt) (hz q hq)
   refine wpS_bind (aA ey ?_)
   by_cases e3:ib' + 1=b.size
   ·rw [if_pos (by simpa using e3)]
    exact wpS_pure ⟨hG,.inl ⟨_,rfl,cQ hM' e3⟩⟩
   ·rw [if_neg (by simpa using e3)]
    split
    ·exact wpS_pure ⟨hG,.inr ⟨_,_,_,_,_,rfl,hM',hia',by omega,by omega⟩⟩
    ·exact wpS_pure ⟨hG,_,_,_,_,_,rfl,hM',hia',by omega,by omega⟩
  ·rw [decide_eq_false hlt,if_neg (by decide)]
   have hM':=hM.cH (ra:=[]) ez fun q hq=>Int.le_trans (Int.not_lt.mp hlt) (hy q hq)
   refine wpS_bind (aA ez ?_)
   by_cases e3:ia' + 1+1=a.size
   ·rw [if_pos (by simpa using e3)]
    exact wpS_pure ⟨hG,.inl ⟨_,rfl,dQ hM' e3⟩⟩
   ·rw [if_neg (by simpa using e3)]
    split
    ·exact wpS_pure ⟨hG,.inr ⟨_,_,_,_,_,rfl,hM',by omega,hib',by omega⟩⟩
    ·exact wpS_pure ⟨hG,_,_,_,_,_,rfl,hM',by omega,hib',by omega⟩
 ·rintro c st' ⟨_,out,ia',ib',ac,bc,rfl,_,h1,h2,h3⟩
  omega
 clear hM hG
 rintro⟨c,c2⟩ st' ⟨hG,⟨m,e,hL⟩ | ⟨out,ia',ib',ac,bc,e,hM,hia',hib',hx'⟩⟩
 ·cases (show c=some m from e)
  exact wpS_pure ⟨hG,m,rfl,hL⟩
 cases e
 dsimp only
 refine wpS_bind (wpS_lift (wpAny_rule ⟨rfl,?_⟩))
 refine wpS_bind (wpS_mono (wpS_forRange (I:=fun x1 c st'=>Gm st st'/\∃ out ia' ib' mg ac bc,c=(none,out,ia',ib',mg,ac,bc)/\MI (a.toList++b.toList) out.toList (a.toList.drop ia') (b.toList.drop ib')/\ia' + 1 < a.size/\ib' < b.size/\ia+ib+1<=ia' + ib')
  (Q:=fun c st'=>Gm st st'/\((∃ m,c.1=some m/\Laid (a.toList++b.toList) m)\/∃ out ia' ib' mg ac bc,c=(none,out,ia',ib',mg,ac,bc)/\MI (a.toList++b.toList) out.toList (a.toList.drop ia') (b.toList.drop ib')/\ia' + 1 < a.size/\ib' < b.size/\ia+ib+1<=ia' + ib')) ?_ ?_ ⟨hG,_,_,_,_,_,_,rfl,hM,hia',hib',hx'⟩) ?_)
 rotate_left
 ·rintro c st' ⟨hG,hh⟩
  exact⟨hG,.inr hh⟩
 ·rintro⟨c,c2⟩ st' ⟨hG,⟨m,e,hL⟩ | ⟨out,ia',ib',mg,ac,bc,e,hM,hia',hib',hx'⟩⟩
  ·cases (show c=some m from e)
   exact wpS_pure ⟨hG,m,rfl,hL⟩
  ·cases e
   refine wpS_bind (wpS_modify (wpS_pure ⟨hG.set _,_,_,_,_,rfl,hM,hia',hib',?_⟩))
   show x+1+1<=ia' + ib'
   omega
 clear hM hG hia' hib' hx'
 rintro x1 c st' _ hx1 ⟨hG,out,ia',ib',mg,ac,bc,rfl,hM,hia',hib',hx'⟩
 dsimp only
 obtain⟨y,ey,my⟩:=bI hib'
 have hy:∀ q ∈ b.toList.drop ib',kn y<=kn q:=by rw [drop_cons ey];exact bp.head (by rw [<-drop_cons ey];exact hM.sb)
 have er:cm a ia' (a.size - ia')=a.toList.drop ia':=ij (by omega)
 rcases Nat.lt_or_ge 1 mg with hmg | hmg
 all_goals
  first | rw [if_pos (show mg > 1 from hmg)] | rw [if_neg (show ¬ mg > 1 by omega)]
  refine wpS_bind (wpS_modify ?_)
  refine wpS_bind (aA ey ?_)
  refine wpS_bind (cL (left:=false) ((hG.set _).kind.trans hk) (hb y my) (by omega) (by rw [er];exact fun p hp=>ha p (List.mem_of_mem_drop hp)) (by rw [er];exact hM.sa) (by omega) fun k hk1 hk2 hk3=>?_)
  dsimp only
  rw [er] at hk2 hk3
  rcases Nat.eq_zero_or_pos k with hk0 | hk0
  ·subst hk0
   rw [if_neg (by decide)]
   have hM1:=hM
   have hk3:∀ q ∈ a.toList.drop ia',kn y < kn q:=fun q hq=>hk3 q hq
   refine wpS_bind (aA ey ?_)
   have hM2:=hM1.eE ey (fun q hq=>Int.le_of_lt (hk3 q hq))
   by_cases e3:ib' + 1=b.size
   ·rw [if_pos (by simpa using e3)]
    exact wpS_pure ⟨hG.set _,.inl ⟨_,rfl,cQ hM2 e3⟩⟩
   rw [if_neg (by simpa using e3)]
   obtain⟨z,ez,mz⟩:=bI (show ia' < a.size by omega)
   have hz:∀ q ∈ a.toList.drop (ia'),kn z<=kn q:=by rw [drop_cons ez];exact bp.head (by rw [<-drop_cons ez];exact hM2.sa)
   have er2:cm b (ib' + 1) (b.size - (ib' + 1))=b.toList.drop (ib' + 1):=ij (by omega)
   refine wpS_bind (aA ez ?_)
   refine wpS_bind (cL (left:=true) ((hG.set _).kind.trans hk) (ha z mz) (by omega) (by rw [er2];exact fun p hp=>hb p (List.mem_of_mem_drop hp)) (by rw [er2];exact hM2.sb) (by omega) fun k2 q1 q2 q3=>?_)
   dsimp only
   rw [er2] at q2 q3
   rcases Nat.eq_zero_or_pos k2 with hk20 | hk20
   ·subst hk20
    rw [if_neg (by decide)]
    have hM3:=hM2
    have hz3:∀ q ∈ b.toList.drop (ib' + 1),kn z<=kn q:=fun q hq=>q3 q hq
    refine wpS_bind (aA ez ?_)
    have hM4:=hM3.cH (ra:=[]) ez hz3
    by_cases e5:ia' + 1+1=a.size
    ·rw [if_pos (by simpa using e5)]
     exact wpS_pure ⟨hG.set _,.inl ⟨_,rfl,dQ hM4 e5⟩⟩
    rw [if_neg (by simpa using e5)]
    split
    ·exact wpS_pure ⟨hG.set _,.inr ⟨_,_,_,_,_,_,rfl,hM4,by omega,by omega,by omega⟩⟩
    ·exact wpS_pure ⟨hG.set _,_,_,_,_,_,_,rfl,hM4,by omega,by omega,by omega⟩
   ·rw [if_pos hk20]
    have hM3:=hM2.j6 (k:=k2) (fun q hq v hv=>Int.le_trans (Int.le_of_lt (q2 q hq)) (hz v hv))
    have hz3:∀ q ∈ b.toList.drop (ib' + 1+k2),kn z<=kn q:=fun q hq=>q3 q (by rw [List.drop_drop];exact hq)
    by_cases e4:ib' + 1+k2=b.size
    ·rw [if_pos (by simpa using e4)]
     exact wpS_pure ⟨hG.set _,.inl ⟨_,rfl,cQ hM3 e4⟩⟩
    rw [if_neg (by simpa using e4)]
    refine wpS_bind (aA ez ?_)
    have hM4:=hM3.cH (ra:=[]) ez hz3
    by_cases e5:ia' + 1+1=a.size
    ·rw [if_pos (by simpa using e5)]
     exact wpS_pure ⟨hG.set _,.inl ⟨_,rfl,dQ hM4 e5⟩⟩
    rw [if_neg (by simpa using e5)]
    split
    ·exact wpS_pure ⟨hG.set _,.inr ⟨_,_,_,_,_,_,rfl,hM4,by omega,by omega,by omega⟩⟩
    ·exact wpS_pure ⟨hG.set _,_,_,_,_,_,_,rfl,hM4,by omega,by omega,by omega⟩
  ·rw [if_pos hk0]
   have hM1:=hM.pG (k:=k) (fun q hq v hv=>Int.le_trans (hk2 q hq) (hy v hv))
   have hk3:∀ q ∈ a.toList.drop (ia' + k),kn y < kn q:=fun q hq=>hk3 q (by rw [List.drop_drop];exact hq)
   by_cases e1:ia' + k+1=a.size
   ·rw [if_pos (by simpa using e1)]
    exact wpS_pure ⟨hG.set _,.inl ⟨_,rfl,dQ hM1 e1⟩⟩
   rw [if_neg (by simpa using e1)]
   by_cases e2:ia' + k=a.size
   ·rw [if_pos (by simpa using e2)]
    exact wpS_pure ⟨hG.set _,.inl ⟨_,rfl,cP hM1 e2⟩⟩
   rw [if_neg (by simpa using e2)]
   refine wpS_bind (aA ey ?_)
   have hM2:=hM1.eE ey (fun q hq=>Int.le_of_lt (hk3 q hq))
   by_cases e3:ib' + 1=b.size
   ·rw [if_pos (by simpa using e3)]
    exact wpS_pure ⟨hG.set _,.inl ⟨_,rfl,cQ hM2 e3⟩⟩
   rw [if_neg (by simpa using e3)]
   obtain⟨z,ez,mz⟩:=bI (show ia' + k < a.size by omega)
   have hz:∀ q ∈ a.toList.drop (ia' + k),kn z<=kn q:=by rw [drop_cons ez];exact bp.head (by rw [<-drop_cons ez];exact hM2.sa)
   have er2:cm b (ib' + 1) (b.size - (ib' + 1))=b.toList.drop (ib' + 1):=ij (by omega)
   refine wpS_bind (aA ez ?_)
   refine wpS_bind (cL (left:=true) ((hG.set _).kind.trans hk) (ha z mz) (by omega) (by rw [er2];exact fun p hp=>hb p (List.mem_of_mem_drop hp)) (by rw [er2];exact hM2.sb) (by omega) fun k2 q1 q2 q3=>?_)
   dsimp only
   rw [er2] at q2 q3
   rcases Nat.eq_zero_or_pos k2 with hk20 | hk20
   ·subst hk20
    rw [if_neg (by decide)]
    have hM3:=hM2
    have hz3:∀ q ∈ b.toList.drop (ib' + 1),kn z<=kn q:=fun q hq=>q3 q hq
    refine wpS_bind (aA ez ?_)
    have hM4:=hM3.cH (ra:=[]) ez hz3
    by_cases e5:ia' + k+1+1=a.size
    ·rw [if_pos (by simpa using e5)]
     exact wpS_pure ⟨hG.set _,.inl ⟨_,rfl,dQ hM4 e5⟩⟩
    rw [if_neg (by simpa using e5)]
    split
    ·exact wpS_pure ⟨hG.set _,.inr ⟨_,_,_,_,_,_,rfl,hM4,by omega,by omega,by omega⟩⟩
    ·exact wpS_pure ⟨hG.set _,_,_,_,_,_,_,rfl,hM4,by omega,by omega,by omega⟩
   ·rw [if_pos hk20]
    have hM3:=hM2.j6 (k:=k2) (fun q hq v hv=>Int.le_trans (Int.le_of_lt (q2 q hq)) (hz v hv))
    have hz3:∀ q ∈ b.toList.drop (ib' + 1+k2),kn z<=kn q:=fun q hq=>q3 q (by rw [List.drop_drop];exact hq)
    by_cases e4:ib' + 1+k2=b.size
    ·rw [if_pos (by simpa using e4)]
     exact wpS_pure ⟨hG.set _,.inl ⟨_,rfl,cQ hM3 e4⟩⟩
    rw [if_neg (by simpa using e4)]
    refine wpS_bind (aA ez ?_)
    have hM4:=hM3.cH (ra:=[]) ez hz3
    by_cases e5:ia' + k+1+1=a.size
    ·rw [if_pos (by simpa using e5)]
     exact wpS_pure ⟨hG.set _,.inl ⟨_,rfl,dQ hM4 e5⟩⟩
    rw [if_neg (by simpa using e5)]
    split
    ·exact wpS_pure ⟨hG.set _,.inr ⟨_,_,_,_,_,_,rfl,hM4,by omega,by omega,by omega⟩⟩
    ·exact wpS_pure ⟨hG.set _,_,_,_,_,_,_,rfl,hM4,by omega,by omega,by omega⟩
end
end dn
namespace dn
open PySem PyProof.Rows
structure MH (T o ra rb:List Keyed):Prop where
 perm:(ra++(rb++o)).Perm T
 so:bp o
 sa:bp ra
 sb:bp rb
 oa:∀ x ∈ ra,∀ y ∈ o,kn x<=kn y
 ob:∀ x ∈ rb,∀ y ∈ o,kn x<=kn y
theorem MH.iH {T o c ra rb:List Keyed} (h:MH T o (ra++c) rb) (hc:∀ x ∈ c,∀ y ∈ rb,kn y<=kn x):MH T (c++o) ra rb:=by
 obtain⟨s1,s2,s3⟩:=List.pairwise_append.mp h.sa
 refine⟨?_,?_,s1,h.sb,?_,?_⟩
 ·refine List.Perm.trans ?_ h.perm
  rw [List.append_assoc]
  refine List.Perm.append_left ra ?_
  rw [<-List.append_assoc,<-List.append_assoc]
  exact List.Perm.append_right o List.perm_append_comm
 ·exact List.pairwise_append.mpr ⟨s2,h.so,fun x hx y hy=>h.oa x (List.mem_append_right _ hx) y hy⟩
 ·intro x hx y hy
  rcases List.mem_append.mp hy with hy | hy
  ·exact s3 x hx y hy
  ·exact h.oa x (List.mem_append_left _ hx) y hy
 ·intro x hx y hy
  rcases List.mem_append.mp hy with hy | hy
  ·exact hc y hy x hx
  ·exact h.ob x hx y hy
theorem MH.iI {T o c ra rb:List Keyed} (h:MH T o ra (rb++c)) (hc:∀ x ∈ c,∀ y ∈ ra,kn y<=kn x):MH T (c++o) ra rb:=by
 obtain⟨s1,s2,s3⟩:=List.pairwise_append.mp h.sb
 refine⟨?_,?_,h.sa,s1,?_,?_⟩
 ·have:=h.perm
  rw [List.append_assoc] at this
  exact this
 ·exact List.pairwise_append.mpr ⟨s2,h.so,fun x hx y hy=>h.ob x (List.mem_append_right _ hx) y hy⟩
 ·intro x hx y hy
  rcases List.mem_append.mp hy with hy | hy
  ·exact hc y hy x hx
  ·exact h.oa x hx y hy
 ·intro x hx y hy
  rcases List.mem_append.mp hy with hy | hy
  ·exact s3 x hx y hy
  ·exact h.ob x (List.mem_append_left _ hx) y hy
theorem MH.done {T o ra rb:List Keyed} {m:Array Keyed} (h:MH T o ra rb) (e:ra = []\/rb = []) (em:m.toList=ra++rb++o):Laid T m:=by
 refine⟨by rw [em,List.append_assoc];exact h.perm,?_⟩
 rw [em,List.append_assoc]
 refine List.pairwise_append.mpr ⟨h.sa,List.pairwise_append.mpr ⟨h.sb,h.so,h.ob⟩,fun x hx y hy=>?_⟩
 rcases List.mem_append.mp hy with hy | hy
 ·rcases e with e | e
  ·rw [e] at hx;cases hx
  ·rw [e] at hy;cases hy
 ·exact h.oa x hx y hy
theorem MH.first {T o ra rb:List Keyed} {m:Array Keyed} (h:MH T o ra rb) (hl:∀ x ∈ rb,∀ y ∈ ra,kn x<=kn y) (em:m.toList=rb++ra++o):Laid T m:=by
 refine⟨?_,?_⟩
 ·rw [em]
  refine List.Perm.trans ?_ h.perm
  rw [<-List.append_assoc]
  exact List.Perm.append_right o List.perm_append_comm
 ·rw [em,List.append_assoc]
  refine List.pairwise_append.mpr ⟨h.sb,List.pairwise_append.mpr ⟨h.sa,h.so,h.oa⟩,fun x hx y hy=>?_⟩
  rcases List.mem_append.mp hy with hy | hy
  ·exact hl x hx y hy
  ·exact h.ob x hx y hy
theorem take_snoc {a:Array Keyed} {n:Nat} {x:Keyed} (e:a[n - 1]? = some x) (h:0 < n):a.toList.take n=a.toList.take (n - 1) ++ [x]:=by
 obtain⟨k,rfl⟩:∃ k,n=k+1:=⟨n - 1,by omega⟩
 rw [List.take_add_one]
 congr 1
 rw [Array.getElem?_toList,show a[k]? = some x from e]
 rfl
theorem fL {a:Array Keyed} {n:Nat} {x:Keyed} (e:a[n - 1]? = some x) (h:0 < n) (hs:bp (a.toList.take n)):∀ q ∈ a.toList.take n,kn q<=kn x:=by
 rw [take_snoc e h] at hs ⊢
 intro q hq
 rcases List.mem_append.mp hq with hq | hq
 ·exact (List.pairwise_append.mp hs).2.2 q hq x (List.mem_singleton.mpr rfl)
 ·rw [List.mem_singleton.mp hq];exact Int.le_refl _
theorem MH.cH {T rb:List Keyed} {out a:Array Keyed} {n:Nat} {x:Keyed} (h:MH T out.toList.reverse (a.toList.take n) rb) (e:a[n - 1]? = some x) (h0:0 < n) (hc:∀ y ∈ rb,kn y<=kn x):MH T (out.push x).toList.reverse (a.toList.take (n - 1)) rb:=by
 rw [take_snoc e h0] at h
 rw [Array.toList_push,List.reverse_append]
 exact MH.iH (c:=[x]) h fun z hz y hy=>by rw [List.mem_singleton.mp hz];exact hc y hy
theorem MH.eE {T ra:List Keyed} {out b:Array Keyed} {n:Nat} {x:Keyed} (h:MH T out.toList.reverse ra (b.toList.take n)) (e:b[n - 1]? = some x) (h0:0 < n) (hc:∀ y ∈ ra,kn y<=kn x):MH T (out.push x).toList.reverse ra (b.toList.take (n - 1)):=by
 rw [take_snoc e h0] at h
 rw [Array.toList_push,List.reverse_append]
 exact MH.iI (c:=[x]) h fun z hz y hy=>by rw [List.mem_singleton.mp hz];exact hc y hy
theorem ja (a:Array Keyed) (i j:Nat):(a.extract i j).toList=(a.toList.take j).drop i:=by
 rw [Array.toList_extract,List.extract_eq_take_drop,List.drop_take]
theorem j7 {l:List Keyed} {k n:Nat} (h:k<=n):l.take n=l.take k++(l.take n).drop k:=by
 have e:=(List.take_append_drop k (l.take n)).symm
 rw [List.take_take,Nat.min_eq_left h] at e
 exact e
theorem MH.pG {T rb:List Keyed} {out a:Array Keyed} {n k:Nat} (h:MH T out.toList.reverse (a.toList.take n) rb) (hkn:k<=n) (hn:n<=a.size) (hc:∀ x ∈ (a.toList.take n).drop k,∀ y ∈ rb,kn y<=kn x):MH T (out++(a.extract k n).reverse).toList.reverse (a.toList.take k) rb:=by
 rw [Array.toList_append,Array.toList_reverse,List.reverse_append,List.reverse_reverse,ja]
 refine MH.iH ?_ hc
 rw [<-j7 hkn]
 exact h
theorem MH.j6 {T ra:List Keyed} {out b:Array Keyed} {n k:Nat} (h:MH T out.toList.reverse ra (b.toList.take n)) (hkn:k<=n) (hn:n<=b.size) (hc:∀ x ∈ (b.toList.take n).drop k,∀ y ∈ ra,kn y<=kn x):MH T (out++(b.extract k n).reverse).toList.reverse ra (b.toList.take k):=by
 rw [Array.toList_append,Array.toList_reverse,List.reverse_append,List.reverse_reverse,ja]
 refine MH.iI ?_ hc
 rw [<-j7 hkn]
 exact h
theorem gF (a:Array Keyed) (n:Nat):(a.extract 0 n).toList=a.toList.take n:=by rw [ja,List.drop_zero]
section
variable {prog:Program} {w:World} {A:Around} {E:Value->Shared->Prop} {s:Shared} {st:SortSt}
theorem sg {a b:Array Keyed} {Q:Array Keyed->SortSt->Prop} (hk:kindOf st=oneType') (ha:∀ p ∈ a.toList,cJ p) (hb:∀ p ∈ b.toList,cJ p) (sa:bp a.toList) (sb:bp b.toList) (za:0 < a.size) (zb:0 < b.size)
  (h0:∀ y ∈ b.toList.take 1,∀ x ∈ a.toList,kn y<=kn x) (h1:∀ x,a[a.size - 1]? = some x->∀ y ∈ b.toList,kn y<=kn x)
  (h:∀ m st',Gm st st'->Laid (a.toList++b.toList) m->Q m st'):wpS (model prog w) A E s (vm a b) Q st:=by
 have firstB:∀ {out:Array Keyed} {na nb:Nat},MH (a.toList++b.toList) out.toList.reverse (a.toList.take na) (b.toList.take nb)->nb=1->na<=a.size->Laid (a.toList++b.toList) (b.extract 0 nb++a.extract 0 na++out.reverse):=fun {out na nb} hM e _=>by
  subst e
  exact hM.first (fun x hx y hy=>h0 x hx y (List.mem_of_mem_take hy)) (by rw [Array.toList_append,Array.toList_append,gF,gF,Array.toList_reverse])
 have cP:∀ {out:Array Keyed} {na nb:Nat},MH (a.toList++b.toList) out.toList.reverse (a.toList.take na) (b.toList.take nb)->na=0->Laid (a.toList++b.toList) (a.extract 0 na++b.extract 0 nb++out.reverse):=fun {out na nb} hM e=>by
  subst e
  exact hM.done (.inl rfl) (by rw [Array.toList_append,Array.toList_append,gF,gF,Array.toList_reverse])
 have cQ:∀ {out:Array Keyed} {na nb:Nat},MH (a.toList++b.toList) out.toList.reverse (a.toList.take na) (b.toList.take nb)->nb=0->Laid (a.toList++b.toList) (a.extract 0 na++b.extract 0 nb++out.reverse):=fun {out na nb} hM e=>by
  subst e
  exact hM.done (.inr rfl) (by rw [Array.toList_append,Array.toList_append,gF,gF,Array.toList_reverse])
 refine wpS_bind (wpS_lift (wpAny_rule ⟨rfl,?_⟩))
 dsimp only
 obtain⟨y0,ey0,my0⟩:=bI (show a.size - 1 < a.size by omega)
 refine wpS_bind (aA ey0 ?_)
 have hM0:MH (a.toList++b.toList) (#[y0]:Array Keyed).toList.reverse (a.toList.take (a.size - 1)) (b.toList.take b.size):=by
  refine MH.cH (out:=#[]) (n:=a.size) ⟨?_,List.Pairwise.nil,?_,?_,(fun x _ y hy=>nomatch hy),(fun x _ y hy=>nomatch hy)⟩ ey0 za fun y hy=>h1 y0 ey0 y (List.mem_of_mem_take hy)
  ·rw [List.take_of_length_le (Nat.le_of_eq Array.length_toList),List.take_of_length_le (Nat.le_of_eq Array.length_toList)]
   show (a.toList++(b.toList ++ [])).Perm _
   rw [List.append_nil]
  ·rw [List.take_of_length_le (Nat.le_of_eq Array.length_toList)];exact sa
  ·rw [List.take_of_length_le (Nat.le_of_eq Array.length_toList)];exact sb
 by_cases e1:a.size - 1=0
 ·rw [if_pos (by simpa using e1)]
  exact wpS_pure (h _ _ (Gm.refl st) (cP hM0 e1))
 rw [if_neg (by simpa using e1)]
 by_cases e2:b.size=1
 ·rw [if_pos (by simpa using e2)]
  exact wpS_pure (h _ _ (Gm.refl st) (firstB hM0 e2 (by omega)))
 rw [if_neg (by simpa using e2)]
 refine wpS_bind (wpS_get ?_)
 refine wpS_bind (wpS_mono (wpS_forRange (I:=fun x c st'=>Gm st st'/\∃ out na nb mg,c=(none,na,nb,out,mg)/\MH (a.toList++b.toList) out.toList.reverse (a.toList.take na) (b.toList.take nb)/\0 < na/\na<=a.size/\1 < nb/\nb<=b.size/\x+1+na+nb<=a.size+b.size)
  (Q:=fun c st'=>Gm st st'/\∃ m,c.1=some m/\Laid (a.toList++b.toList) m) ?_ ?_ ⟨Gm.refl st,_,_,_,_,rfl,hM0,by omega,by omega,by omega,by omega,by omega⟩) ?_)
 rotate_left
 ·rintro c st' ⟨_,out,ia,ib,mg,rfl,_,h1,h2,h3,h4,h5⟩
  omega
 ·rintro⟨c,c2⟩ st' ⟨hG,m,e,hL⟩
  cases (show c=some m from e)
  exact wpS_pure (h _ _ hG hL)
 rintro x c st' _ hx ⟨hG,out,na,nb,mg,rfl,hM,ha0,hal,hb0,hbl,hxx⟩
 dsimp only
 refine wpS_bind (wpS_mono (wpS_forRange (I:=fun x1 c st'=>Gm st st'/\∃ out na' nb' ac bc,c=(none,na',nb',out,ac,bc)/\MH (a.toList++b.toList) out.toList.reverse (a.toList.take na') (b.toList.take nb')/\0 < na'/\na' <= a.size/\1 < nb'/\nb' <= b.size/\x1+na' + nb' <= na+nb)
  (Q:=fun c st'=>Gm st st'/\((∃ m,c.1=some m/\Laid (a.toList++b.toList) m)\/∃ out na' nb' ac bc,c=(none,na',nb',out,ac,bc)/\MH (a.toList++b.toList) out.toList.reverse (a.toList.take na') (b.toList.take nb')/\0 < na'/\na' <= a.size/\1 < nb'/\nb' <= b.size/\1+na' + nb' <= na+nb)) ?_ ?_ ⟨hG,_,_,_,_,_,rfl,hM,ha0,hal,hb0,hbl,by omega⟩) ?_)
 ·clear hM hG
  rintro x1 c st' _ hx1 ⟨hG,out,na',nb',ac,bc,rfl,hM,ha1,hal1,hb1,hbl1,hx'⟩
  dsimp only
  obtain⟨y,ey,my⟩:=bI (show nb' - 1 < b.size by omega)
  obtain⟨z,ez,mz⟩:=bI (show na' - 1 < a.size by omega)
  have hy:=fL ey (by omega) hM.sb
  have hz:=fL ez (by omega) hM.sa
  refine wpS_bind (aA ey (wpS_bind (aA ez (wpS_bind (iG (hG.kind.trans hk) (hb y my) (ha z mz) ?_)))))
  dsimp only
  by_cases hlt:kn y < kn z
  ·rw [decide_eq_true hlt,if_pos rfl]
   have hM':=hM.cH ez ha1 fun q hq=>Int.le_trans (hy q hq) (Int.le_of_lt hlt)
   refine wpS_bind (aA ez ?_)
   by_cases e3:na' - 1=0
   ·rw [if_pos (by simpa using e3)]
    exact wpS_pure ⟨hG,.inl ⟨_,rfl,cP hM' e3⟩⟩
   ·rw [if_neg (by simpa using e3)]
    split
    ·exact wpS_pure ⟨hG,.inr ⟨_,_,_,_,_,rfl,hM',by omega,by omega,hb1,hbl1,by omega⟩⟩
    ·exact wpS_pure ⟨hG,_,_,_,_,_,rfl,hM',by omega,by omega,hb1,hbl1,by omega⟩
  ·rw [decide_eq_false hlt,if_neg (by decide)]
   have hM':=hM.eE ey (by omega) fun q hq=>Int.le_trans (hz q hq) (Int.not_lt.mp hlt)
   refine wpS_bind (aA ey ?_)
   by_cases e3:nb' - 1=1
   ·rw [if_pos (by simpa using e3)]
    exact wpS_pure ⟨hG,.inl ⟨_,rfl,firstB hM' e3 (by omega)⟩⟩
   ·rw [if_neg (by simpa using e3)]
    split
    ·exact wpS_pure ⟨hG,.inr ⟨_,_,_,_,_,rfl,hM',ha1,hal1,by omega,by omega,by omega⟩⟩
    ·exact wpS_pure ⟨hG,_,_,_,_,_,rfl,hM',ha1,hal1,by omega,by omega,by omega⟩
 ·rintro c st' ⟨_,out,ia',ib',ac,bc,rfl,_,h1,h2,h3,h4,h5⟩
  omega
 clear hM hG
 rintro⟨c,c2⟩ st' ⟨hG,⟨m,e,hL⟩ | ⟨out,na',nb',ac,bc,e,hM,ha1,hal1,hb1,hbl1,hx'⟩⟩
 ·cases (show c=some m from e)
  exact wpS_pure ⟨hG,m,rfl,hL⟩
 cases e
 dsimp only
 refine wpS_bind (wpS_lift (wpAny_rule ⟨rfl,?_⟩))
 refine wpS_bind (wpS_mono (wpS_forRange (I:=fun x1 c st'=>Gm st st'/\∃ out na' nb' mg ac bc,c=(none,na',nb',out,mg,ac,bc)/\MH (a.toList++b.toList) out.toList.reverse (a.toList.take na') (b.toList.take nb')/\0 < na'/\na' <= a.size/\1 < nb'/\nb' <= b.size/\1+na' + nb' <= na+nb)
  (Q:=fun c st'=>Gm st st'/\((∃ m,c.1=some m/\Laid (a.toList++b.toList) m)\/∃ out na' nb' mg ac bc,c=(none,na',nb',out,mg,ac,bc)/\MH (a.toList++b.toList) out.toList.reverse (a.toList.take na') (b.toList.take nb')/\0 < na'/\na' <= a.size/\1 < nb'/\nb' <= b.size/\1+na' + nb' <= na+nb)) ?_ ?_ ⟨hG,_,_,_,_,_,_,rfl,hM,ha1,hal1,hb1,hbl1,hx'⟩) ?_)
 rotate_left
 ·rintro c st' ⟨hG,hh⟩
  exact⟨hG,.inr hh⟩
 ·rintro⟨c,c2⟩ st' ⟨hG,⟨m,e,hL⟩ | ⟨out,na',nb',mg,ac,bc,e,hM,ha1,hal1,hb1,hbl1,hx'⟩⟩
  ·cases (show c=some m from e)
   exact wpS_pure ⟨hG,m,rfl,hL⟩
  ·cases e
   refine wpS_bind (wpS_modify (wpS_pure ⟨hG.set _,_,_,_,_,rfl,hM,ha1,hal1,hb1,hbl1,?_⟩))
   show x+1+1+na' + nb' <= a.size+b.size
   omega
 clear hM hG ha1 hal1 hb1 hbl1 hx'
 rintro x1 c st' _ hx1 ⟨hG,out,na',nb',mg,ac,bc,rfl,hM,ha1,hal1,hb1,hbl1,hx'⟩
 dsimp only
 obtain⟨y,ey,my⟩:=bI (show nb' - 1 < b.size by omega)
 have hy:=fL ey (by omega) hM.sb
 have er:cm a 0 na' = a.toList.take na':=rfl
 rcases Nat.lt_or_ge 1 mg with hmg | hmg
 all_goals
  first | rw [if_pos (show mg > 1 from hmg)] | rw [if_neg (show ¬ mg > 1 by omega)]
  refine wpS_bind (wpS_modify ?_)
  refine wpS_bind (aA ey ?_)
  refine wpS_bind (cL (left:=false) ((hG.set _).kind.trans hk) (hb y my) (by omega) (by rw [er];exact fun p hp=>ha p (List.mem_of_mem_take hp)) (by rw [er];exact hM.sa) (by omega) fun k hk1 hk2 hk3=>?_)
  dsimp only
  rw [er] at hk2 hk3
  rcases Nat.eq_zero_or_pos (na' - k) with hk0 | hk0
  ·rw [if_neg (by omega)]
   have hM1:=hM
   have hk2:∀ q ∈ a.toList.take na',kn q<=kn y:=fun q hq=>hk2 q (by rw [List.take_of_length_le (by rw [List.length_take];omega)];exact hq)
   refine wpS_bind (aA ey ?_)
   have hM2:=hM1.eE ey (by omega) hk2
   by_cases e3:nb' - 1=1
   ·rw [if_pos (by simpa using e3)]
    exact wpS_pure ⟨hG.set _,.inl ⟨_,rfl,firstB hM2 e3 (by omega)⟩⟩
   rw [if_neg (by simpa using e3)]
   obtain⟨z,ez,mz⟩:=bI (show na' - 1 < a.size by omega)
   have hz:∀ q ∈ a.toList.take (na'),kn q<=kn z:=fL ez (by omega) hM2.sa
   have er2:cm b 0 (nb' - 1)=b.toList.take (nb' - 1):=rfl
   refine wpS_bind (aA ez ?_)
   refine wpS_bind (cL (left:=true) ((hG.set _).kind.trans hk) (ha z mz) (by omega) (by rw [er2];exact fun p hp=>hb p (List.mem_of_mem_take hp)) (by rw [er2];exact hM2.sb) (by omega) fun k2 q1 q2 q3=>?_)
   dsimp only
   rw [er2] at q2 q3
   rcases Nat.eq_zero_or_pos (nb' - 1 - k2) with hk20 | hk20
   ·rw [if_neg (by omega)]
    have hM3:=hM2
    have hz3:∀ q ∈ b.toList.take (nb' - 1),kn q<=kn z:=fun q hq=>Int.le_of_lt (q2 q (by rw [List.take_of_length_le (by rw [List.length_take];omega)];exact hq))
    refine wpS_bind (aA ez ?_)
    have hM4:=hM3.cH ez (by omega) hz3
    by_cases e5:na' - 1=0
    ·rw [if_pos (by simpa using e5)]
     exact wpS_pure ⟨hG.set _,.inl ⟨_,rfl,cP hM4 e5⟩⟩
    rw [if_neg (by simpa using e5)]
    split
    ·exact wpS_pure ⟨hG.set _,.inr ⟨_,_,_,_,_,_,rfl,hM4,by omega,by omega,by omega,by omega,by omega⟩⟩
    ·exact wpS_pure ⟨hG.set _,_,_,_,_,_,_,rfl,hM4,by omega,by omega,by omega,by omega,by omega⟩
   ·rw [if_pos hk20]
    have hM3:=hM2.j6 (k:=k2) (by omega) (by omega) (fun q hq v hv=>Int.le_trans (hz v hv) (q3 q hq))
    have hz3:∀ q ∈ b.toList.take k2,kn q<=kn z:=fun q hq=>Int.le_of_lt (q2 q (by rw [List.take_take,Nat.min_eq_left (by omega)];exact hq))
    by_cases e4:k2=1
    ·rw [if_pos (by simpa using e4)]
     exact wpS_pure ⟨hG.set _,.inl ⟨_,rfl,firstB hM3 e4 (by omega)⟩⟩
    rw [if_neg (by simpa using e4)]
    by_cases e6:k2=0
    ·rw [if_pos (by simpa using e6)]
     exact wpS_pure ⟨hG.set _,.inl ⟨_,rfl,cQ hM3 e6⟩⟩
    rw [if_neg (by simpa using e6)]
    refine wpS_bind (aA ez ?_)
    have hM4:=hM3.cH ez (by omega) hz3
    by_cases e5:na' - 1=0
    ·rw [if_pos (by simpa using e5)]
     exact wpS_pure ⟨hG.set _,.inl ⟨_,rfl,cP hM4 e5⟩⟩
    rw [if_neg (by simpa using e5)]
    split
    ·exact wpS_pure ⟨hG.set _,.inr ⟨_,_,_,_,_,_,rfl,hM4,by omega,by omega,by omega,by omega,by omega⟩⟩
    ·exact wpS_pure ⟨hG.set _,_,_,_,_,_,_,rfl,hM4,by omega,by omega,by omega,by omega,by omega⟩
  ·rw [if_pos hk0]
   have hM1:=hM.pG (k:=k) (by omega) (by omega) (fun q hq v hv=>Int.le_trans (hy v hv) (Int.le_of_lt (hk3 q hq)))
   have hk2:∀ q ∈ a.toList.take k,kn q<=kn y:=fun q hq=>hk2 q (by rw [List.take_take,Nat.min_eq_left (by omega)];exact hq)
   by_cases e1:k=0
   ·rw [if_pos (by simpa using e1)]
    exact wpS_pure ⟨hG.set _,.inl ⟨_,rfl,cP hM1 e1⟩⟩
   rw [if_neg (by simpa using e1)]
   refine wpS_bind (aA ey ?_)
   have hM2:=hM1.eE ey (by omega) hk2
   by_cases e3:nb' - 1=1
   ·rw [if_pos (by simpa using e3)]
    exact wpS_pure ⟨hG.set _,.inl ⟨_,rfl,firstB hM2 e3 (by omega)⟩⟩
   rw [if_neg (by simpa using e3)]
   obtain⟨z,ez,mz⟩:=bI (show k - 1 < a.size by omega)
   have hz:∀ q ∈ a.toList.take (k),kn q<=kn z:=fL ez (by omega) hM2.sa
   have er2:cm b 0 (nb' - 1)=b.toList.take (nb' - 1):=rfl
   refine wpS_bind (aA ez ?_)
   refine wpS_bind (cL (left:=true) ((hG.set _).kind.trans hk) (ha z mz) (by omega) (by rw [er2];exact fun p hp=>hb p (List.mem_of_mem_take hp)) (by rw [er2];exact hM2.sb) (by omega) fun k2 q1 q2 q3=>?_)
   dsimp only
   rw [er2] at q2 q3
   rcases Nat.eq_zero_or_pos (nb' - 1 - k2) with hk20 | hk20
   ·rw [if_neg (by omega)]
    have hM3:=hM2
    have hz3:∀ q ∈ b.toList.take (nb' - 1),kn q<=kn z:=fun q hq=>Int.le_of_lt (q2 q (by rw [List.take_of_length_le (by rw [List.length_take];omega)];exact hq))
    refine wpS_bind (aA ez ?_)
    have hM4:=hM3.cH ez (by omega) hz3
    by_cases e5:k - 1=0
    ·rw [if_pos (by simpa using e5)]
     exact wpS_pure ⟨hG.set _,.inl ⟨_,rfl,cP hM4 e5⟩⟩
    rw [if_neg (by simpa using e5)]
    split
    ·exact wpS_pure ⟨hG.set _,.inr ⟨_,_,_,_,_,_,rfl,hM4,by omega,by omega,by omega,by omega,by omega⟩⟩
    ·exact wpS_pure ⟨hG.set _,_,_,_,_,_,_,rfl,hM4,by omega,by omega,by omega,by omega,by omega⟩
   ·rw [if_pos hk20]
    have hM3:=hM2.j6 (k:=k2) (by omega) (by omega) (fun q hq v hv=>Int.le_trans (hz v hv) (q3 q hq))
    have hz3:∀ q ∈ b.toList.take k2,kn q<=kn z:=fun q hq=>Int.le_of_lt (q2 q (by rw [List.take_take,Nat.min_eq_left (by omega)];exact hq))
    by_cases e4:k2=1
    ·rw [if_pos (by simpa using e4)]
     exact wpS_pure ⟨hG.set _,.inl ⟨_,rfl,firstB hM3 e4 (by omega)⟩⟩
    rw [if_neg (by simpa using e4)]
    by_cases e6:k2=0
    ·rw [if_pos (by simpa using e6)]
     exact wpS_pure ⟨hG.set _,.inl ⟨_,rfl,cQ hM3 e6⟩⟩
    rw [if_neg (by simpa using e6)]
    refine wpS_bind (aA ez ?_)
    have hM4:=hM3.cH ez (by omega) hz3
    by_cases e5:k - 1=0
    ·rw [if_pos (by simpa using e5)]
     exact wpS_pure ⟨hG.set _,.inl ⟨_,rfl,cP hM4 e5⟩⟩
    rw [if_neg (by simpa using e5)]
    split
    ·exact wpS_pure ⟨hG.set _,.inr ⟨_,_,_,_,_,_,rfl,hM4,by omega,by omega,by omega,by omega,by omega⟩⟩
    ·exact wpS_pure ⟨hG.set _,_,_,_,_,_,_,rfl,hM4,by omega,by omega,by omega,by omega,by omega⟩
end
end dn
namespace dn
open PySem PyProof.Rows
theorem pH {α : Type} {l:List α} {n:Nat} {p:α} (h:n < l.length):(l.set n p).take (n+1)=l.take n ++ [p]:=by
 rw [List.take_add_one,List.take_set_of_le (Nat.le_refl n),List.getElem?_set_self h]
 rfl
theorem writes (d:Nat):∀ (l:List Keyed) (n:Nat) (xs:Array Keyed),d+n+l.length<=xs.size->((l.zipIdx n).foldl (fun a (p:Keyed × Nat)=>a.setIfInBounds (d+p.2) p.1) xs).toList=xs.toList.take (d+n)++l++xs.toList.drop (d+n+l.length)
 | [],n,xs,h=>by
  show xs.toList=_
  rw [List.append_nil,List.length_nil,Nat.add_zero,List.take_append_drop]
 | p :: l,n,xs,h=>by
  rw [List.zipIdx_cons,List.foldl_cons]
  rw [List.length_cons] at h ⊢
  rw [writes d l (n+1) _ (by rw [Array.size_setIfInBounds];omega)]
  show (xs.setIfInBounds (d+n) p).toList.take _++l++(xs.setIfInBounds (d+n) p).toList.drop _=_
  rw [Array.toList_setIfInBounds,List.drop_set,if_pos (by omega),show d+(n+1)=d+n+1 by omega,pH (by rw [Array.length_toList];omega)]
  rw [List.append_assoc,List.append_assoc,List.append_assoc,show d+n+1+l.length=d+n+(l.length+1) by omega]
  rfl
section
variable {prog:Program} {w:World} {A:Around} {E:Value->Shared->Prop} {s:Shared} {st:SortSt}
theorem q8 {Q:PUnit->SortSt->Prop} {st':SortSt} (h:Q ⟨⟩ st'):wpS (model prog w) A E s (set st':StateT SortSt Sem PUnit) Q st:=by
 unfold wpS
 rw [StateT.run_set]
 exact wpAny_pure ⟨rfl,h⟩
theorem mZ {i sa na pw nb q:Nat} {Q:Bool->SortSt->Prop} {P X Y S:List Keyed} (hk:kindOf st=oneType') (hf:failedOf st=none) (hi:∀ p ∈ (arrOf st).toList,cJ p)
  (e1:(pendingOf st)[i]? = some (sa,na,pw)) (e2:(pendingOf st)[i+1]? = some (sa+na,nb,q)) (eL:(arrOf st).toList=P++(X++(Y++S))) (lP:P.length=sa) (lX:X.length=na) (lY:Y.length=nb) (h0:0 < na) (h1:0 < nb) (sX:bp X) (sY:bp Y)
  (h:∀ st' C,kindOf st' = oneType'->failedOf st' = none->pendingOf st' = ((pendingOf st).setIfInBounds i (sa,na+nb,pw)).eraseIdxIfInBounds (i+1)->(arrOf st').toList=P++(C++S)->C.Perm (X++Y)->bp C->Q true st'):wpS (model prog w) A E s (mergeAt' i) Q st:=by
 refine wpS_bind (wpS_get ?_)
 dsimp only
 rw [e1,e2]
 dsimp only
 refine wpS_bind (q8 ?_)
 have hz:(arrOf st).size=sa+na+nb+S.length:=by
  rw [<-Array.length_toList,eL,List.length_append,List.length_append,List.length_append,lP,lX,lY]
  omega
 have rX:cm (arrOf st) sa na=X:=by
  unfold cm
  rw [eL,<-lP,List.drop_left,<-lX,List.take_left]
 have rY:cm (arrOf st) (sa+na) nb=Y:=by
  unfold cm
  rw [eL,<-lP,<-lX,<-List.drop_drop,List.drop_left,List.drop_left,<-lY,List.take_left]
 have iX:∀ p ∈ X,cJ p:=fun p hp=>hi p (by rw [eL];exact List.mem_append_right _ (List.mem_append_left _ hp))
 have iY:∀ p ∈ Y,cJ p:=fun p hp=>hi p (by rw [eL];exact List.mem_append_right _ (List.mem_append_right _ (List.mem_append_left _ hp)))
 obtain⟨y,ey,my⟩:=bI (a:=arrOf st) (i:=sa+na) (by omega)
 have hy0:Y[0]? = some y:=by rw [<-rY,eW h1];exact ey
 have hy:∀ v ∈ Y,kn y<=kn v:=fun v hv=>by
  obtain⟨j,hj⟩:=List.getElem?_of_mem hv
  exact sY.get (Nat.zero_le j) hy0 hj
 refine wpS_bind (aA ey ?_)
 refine wpS_bind (cL (left:=false) (by exact hk) (hi y my) (show sa+na<=(arrOf st).size by omega) (by rw [rX];exact iX) (by rw [rX];exact sX) h0 fun k k1 k2 k3=>?_)
 rw [rX] at k2 k3
 dsimp only
 by_cases z1:na - k=0
 ·rw [if_pos (by simpa using z1)]
  refine wpS_pure (h _ (X++Y) hk hf rfl (by rw [List.append_assoc];exact eL) (List.Perm.refl _) (List.pairwise_append.mpr ⟨sX,sY,fun x hx v hv=>?_⟩))
  exact Int.le_trans (k2 x (by rw [List.take_of_length_le (by omega)];exact hx)) (hy v hv)
 rw [if_neg (by simpa using z1)]
 obtain⟨z,ez,mz⟩:=bI (a:=arrOf st) (i:=sa+k+(na - k) - 1) (by omega)
 have hzX:X[na - 1]? = some z:=by rw [<-rX,eW (by omega)];rw [show sa+(na - 1)=sa+k+(na - k) - 1 by omega];exact ez
 have hzz:∀ v ∈ X,kn v<=kn z:=fun v hv=>by
  obtain⟨j,hj⟩:=List.getElem?_of_mem hv
  have:=(List.getElem?_eq_some_iff.mp hj).1
  exact sX.get (by omega) hj hzX
 refine wpS_bind (aA ez ?_)
 refine wpS_bind (cL (left:=true) (by exact hk) (hi z mz) (show sa+na+nb<=(arrOf st).size by omega) (by rw [rY];exact iY) (by rw [rY];exact sY) (by omega) fun m m1 m2 m3=>?_)
 rw [rY] at m2 m3
 dsimp only
 by_cases z2:m=0
 ·rw [if_pos (by simpa using z2)]
  subst z2
  refine wpS_pure (h _ (X++Y) hk hf rfl (by rw [List.append_assoc];exact eL) (List.Perm.refl _) (List.pairwise_append.mpr ⟨sX,sY,fun x hx v hv=>?_⟩))
  exact Int.le_trans (hzz x hx) (m3 v hv)
 rw [if_neg (by simpa using z2)]
 have xL:((arrOf st).extract (sa+k) (sa+na)).toList=X.drop k:=by
  rw [show sa+na=sa+k+(na - k) by omega,gC,eL,<-List.drop_drop,<-lP,List.drop_left,List.drop_append_of_le_length (by omega)]
  exact List.take_left' (by rw [List.length_drop];omega)
 have yL:((arrOf st).extract (sa+na) (sa+na+m)).toList=Y.take m:=by
  rw [gC,eL,<-List.drop_drop,<-lP,List.drop_left,<-lX,List.drop_left,List.take_append_of_le_length (by omega)]
 have memD:∀ v ∈ X.drop k,v ∈ X:=fun v hv=>List.mem_of_mem_drop hv
 have memT:∀ v ∈ Y.take m,v ∈ Y:=fun v hv=>List.mem_of_mem_take hv
 have szx:((arrOf st).extract (sa+k) (sa+na)).size=na - k:=by rw [<-Array.length_toList,xL,List.length_drop,lX]
 have szy:((arrOf st).extract (sa+na) (sa+na+m)).size=m:=by rw [<-Array.length_toList,yL,List.length_take,lY];omega
 have sXd:bp (X.drop k):=sX.sublist (List.drop_sublist _ _)
 have sYt:bp (Y.take m):=sY.sublist (List.take_sublist _ _)
 have fin:∀ (mg:Array Keyed) (st':SortSt),Gm (SortSt.mk' (kindOf st) (arrOf st) (((pendingOf st).setIfInBounds i (sa,na+nb,pw)).eraseIdxIfInBounds (i+1)) (gallopOf st) (failedOf st)) st'->Laid (X.drop k++Y.take m) mg ->
   Q true (SortSt.mk' (kindOf st') (mg.toList.zipIdx.foldl (fun a (p:Keyed × Nat)=>a.setIfInBounds (sa+k+p.2) p.1) (arrOf st')) (pendingOf st') (gallopOf st') (failedOf st')):=by
  rintro mg st' ⟨g,rfl⟩ ⟨pm,sm⟩
  have lm:mg.toList.length=(na - k)+m:=by rw [pm.length_eq,List.length_append,List.length_drop,List.length_take,lX,lY];omega
  refine h _ (X.take k++(mg.toList++Y.drop m)) hk hf rfl ?_ ?_ ?_
  ·show (mg.toList.zipIdx.foldl (fun a (p:Keyed × Nat)=>a.setIfInBounds (sa+k+p.2) p.1) (arrOf st)).toList=_
   rw [writes (sa+k) mg.toList 0 (arrOf st) (by omega),lm,eL,Nat.add_zero]
   have t1:(P++(X++(Y++S))).take (sa+k)=P++X.take k:=by
    rw [<-lP,List.take_length_add_append,List.take_append_of_le_length (by omega)]
   have t2:(P++(X++(Y++S))).drop (sa+k+(na - k+m))=Y.drop m++S:=by
    rw [show sa+k+(na - k+m)=sa+(na+m) by omega,<-List.drop_drop,<-lP,List.drop_left,<-List.drop_drop,<-lX,List.drop_left,List.drop_append_of_le_length (by omega)]
   rw [t1,t2]
   simp only [List.append_assoc]
  ·refine ((List.Perm.append_left (X.take k) (List.Perm.append_right (Y.drop m) pm))).trans ?_
   rw [List.append_assoc (X.drop k),List.take_append_drop,<-List.append_assoc,List.take_append_drop]
  ·have low:∀ x ∈ X.take k,kn x<=kn y:=fun x hx=>k2 x hx
   have mid:∀ v ∈ mg.toList,kn y<=kn v/\kn v<=kn z:=fun v hv=>by
    rcases List.mem_append.mp (pm.mem_iff.mp hv) with hv | hv
    ·exact⟨Int.le_of_lt (k3 v hv),hzz v (memD v hv)⟩
    ·exact⟨hy v (memT v hv),Int.le_of_lt (m2 v hv)⟩
   have top:∀ v ∈ Y.drop m,kn z<=kn v/\kn y<=kn v:=fun v hv=>⟨m3 v hv,hy v (List.mem_of_mem_drop hv)⟩
   refine List.pairwise_append.mpr ⟨sX.sublist (List.take_sublist _ _),List.pairwise_append.mpr ⟨sm,sY.sublist (List.drop_sublist _ _),fun u hu v hv=>Int.le_trans (mid u hu).2 (top v hv).1⟩,fun u hu v hv=>?_⟩
   rcases List.mem_append.mp hv with hv | hv
   ·exact Int.le_trans (low u hu) (mid v hv).1
   ·exact Int.le_trans (low u hu) (top v hv).2
 have h0y:∀ v,((arrOf st).extract (sa+na) (sa+na+m))[0]? = some v->v=y:=fun v hv=>by
  rw [<-Array.getElem?_toList,yL,List.getElem?_take_of_lt (by omega),hy0] at hv
  exact (Option.some.inj hv).symm
 have hlx:∀ v,((arrOf st).extract (sa+k) (sa+na))[na - k - 1]? = some v->v=z:=fun v hv=>by
  rw [<-Array.getElem?_toList,xL,List.getElem?_drop,show k+(na - k - 1)=na - 1 by omega,hzX] at hv
  exact (Option.some.inj hv).symm
 by_cases z3:na - k<=m
 ·rw [if_pos z3]
  refine wpS_bind (sf (by exact hk) (by rw [xL];exact fun p hp=>iX p (memD p hp)) (by rw [yL];exact fun p hp=>iY p (memT p hp)) (by rw [xL];exact sXd) (by rw [yL];exact sYt) (Nat.lt_of_lt_of_eq (show 0 < na - k by omega) szx.symm) (Nat.lt_of_lt_of_eq (show 0 < m by omega) szy.symm) ?_ ?_ fun mg st' hG hL=>?_)
  ·intro v hv u hu
   rw [h0y v hv]
   rw [xL] at hu
   exact Int.le_of_lt (k3 u hu)
  ·intro j hj u hu v hv
   rw [yL] at hv
   have hj':j+1=na - k:=hj.trans szx
   obtain⟨u0,eu,_⟩:=bI (a:=(arrOf st).extract (sa+k) (sa+na)) (i:=j) (Nat.lt_of_lt_of_eq (Nat.lt_succ_self j) hj)
   have hu0:u0=z:=hlx u0 (by rw [show na - k - 1=j by omega];exact eu)
   rw [drop_cons eu,d6 hj,List.mem_singleton] at hu
   rw [hu,hu0]
   exact Int.le_of_lt (m2 v hv)
  ·rw [xL,yL] at hL
   refine wpS_bind (wpS_modify (wpS_bind (wpS_get (wpS_pure ?_))))
   have:=fin mg st' hG hL
   obtain⟨g,rfl⟩:=hG
   rw [show (failedOf st).isNone=true by rw [hf];rfl]
   exact this
 ·rw [if_neg z3]
  refine wpS_bind (sg (by exact hk) (by rw [xL];exact fun p hp=>iX p (memD p hp)) (by rw [yL];exact fun p hp=>iY p (memT p hp)) (by rw [xL];exact sXd) (by rw [yL];exact sYt) (Nat.lt_of_lt_of_eq (show 0 < na - k by omega) szx.symm) (Nat.lt_of_lt_of_eq (show 0 < m by omega) szy.symm) ?_ ?_ fun mg st' hG hL=>?_)
  ·intro v hv u hu
   obtain⟨v0,ev,_⟩:=bI (a:=(arrOf st).extract (sa+na) (sa+na+m)) (i:=0) (Nat.lt_of_lt_of_eq (show 0 < m by omega) szy.symm)
   have hv0:=h0y v0 ev
   have e3:=drop_cons ev
   rw [List.drop_zero] at e3
   rw [e3] at hv
   rw [show v=v0 from List.mem_singleton.mp hv,hv0]
   rw [xL] at hu
   exact Int.le_of_lt (k3 u hu)
  ·intro u eu v hv
   rw [szx] at eu
   rw [yL] at hv
   rw [hlx u eu]
   exact Int.le_of_lt (m2 v hv)
  ·rw [xL,yL] at hL
   refine wpS_bind (wpS_modify (wpS_bind (wpS_get (wpS_pure ?_))))
   have:=fin mg st' hG hL
   obtain⟨g,rfl⟩:=hG
   rw [show (failedOf st).isNone=true by rw [hf];rfl]
   exact this
end
end dn
namespace dn
open PySem PyProof.Rows
def Up (xs:Array Keyed) (lo hi:Nat):Prop:=∀ i j,lo<=i->i<=j->j < hi->K xs i<=K xs j
def Dn (xs:Array Keyed) (lo hi:Nat):Prop:=∀ i j,lo<=i->i<=j->j < hi->K xs j<=K xs i
structure TB (a₀ : Array Keyed) (lo:Nat) (F:List Keyed) (pd:Array (Nat × Nat × Nat)) (st:SortSt):Prop where
 perm:(arrOf st).Perm a₀
 kind:kindOf st=oneType'
 failed:failedOf st=none
 pend:pendingOf st=pd
 pre:(arrOf st).toList.take lo=F
variable {a₀ : Array Keyed} {lo:Nat} {F:List Keyed} {pd:Array (Nat × Nat × Nat)}
theorem TB.size {st:SortSt} (h:TB a₀ lo F pd st):(arrOf st).size=a₀.size:=h.perm.size_eq
theorem TB.si {st:SortSt} (h:TB a₀ lo F pd st) {xs:Array Keyed} (hp:xs.Perm (arrOf st)) (hk:∀ k,k < lo->xs[k]? = (arrOf st)[k]?):TB a₀ lo F pd (setArr st xs) :=
 ⟨hp.trans h.perm,h.kind,h.failed,h.pend,by
  rw [<-h.pre]
  refine List.ext_getElem? fun k=>?_
  show (xs.toList.take lo)[k]? = _
  by_cases hkl:k < lo
  ·rw [List.getElem?_take_of_lt hkl,List.getElem?_take_of_lt hkl,Array.getElem?_toList,Array.getElem?_toList]
   exact hk k hkl
  ·rw [List.getElem?_take_eq_none (by omega),List.getElem?_take_eq_none (by omega)]⟩
theorem TB.ints {st:SortSt} (h:TB a₀ lo F pd st) (h0:IntKeys a₀):∀ p ∈ (arrOf st).toList,cJ p:=fun p hp=>h0 p ((Array.perm_iff_toList_perm.mp h.perm).mem_iff.mp hp)
section
variable {prog:Program} {w:World} {A:Around} {E:Value->Shared->Prop} {s:Shared} {st:SortSt}
theorem fM {i j:Nat} {Q:Option Bool->SortSt->Prop} (hB:TB a₀ lo F pd st) (h0:IntKeys a₀) (hi:i < a₀.size) (hj:j < a₀.size) (h:Q (some (decide (K (arrOf st) i < K (arrOf st) j))) st):wpS (model prog w) A E s (ltAt' i j) Q st:=by
 obtain⟨x,ex,mx⟩:=bI (a:=arrOf st) (i:=i) (by rw [hB.size];exact hi)
 obtain⟨y,ey,my⟩:=bI (a:=arrOf st) (i:=j) (by rw [hB.size];exact hj)
 rw [show K (arrOf st) i=kn x by unfold K;rw [ex];rfl,show K (arrOf st) j=kn y by unfold K;rw [ey];rfl] at h
 rw [ltAt'_eq]
 exact wpS_bind (wpS_get (wpS_bind (aA ex (wpS_bind (aA ey (iG hB.kind (hB.ints h0 x mx) (hB.ints h0 y my) h))))))
theorem iJ {i j:Nat} {Q:Unit->SortSt->Prop} (h:Q () (setArr st (mirror (arrOf st) i j ((j - i) / 2)))):wpS (model prog w) A E s (reverseSlice' i j) Q st:=by
 rw [reverseSlice'_eq]
 exact wpS_modify h
theorem TB.rev (hB:TB a₀ lo F pd st) {i j:Nat} (hi:lo<=i) (hj:j<=a₀.size):TB a₀ lo F pd (setArr st (mirror (arrOf st) i j ((j - i) / 2))) :=
 hB.si (mirror_perm _ _ _ _) fun k hk=>by rw [getElem?_mirror_all (by rw [hB.size];exact hj),if_neg (by omega)]
def jb (lo a nrem:Nat):StateT SortSt Sem (Option (Option Nat) × Nat):=forIn [a:nrem] ((none,a):Option (Option Nat) × Nat) fun _ c=>ltAt' (lo+c.2) (lo+c.2 - 1) >>= fun z =>
 match z with
 | some r=>if r=true then pure (ForInStep.done (none,c.2)) else pure (ForInStep.yield (none,c.2+1))
 | _=>pure (ForInStep.done (some none,c.2))
theorem md {a nrem:Nat} {Q:Option (Option Nat) × Nat->SortSt->Prop} (h0:IntKeys a₀) (hn:lo+nrem<=a₀.size) (ha:1<=a) (han:a<=nrem) (hB:TB a₀ lo F pd st) (hs:Up (arrOf st) lo (lo+a))
  (h:∀ n,a<=n->n<=nrem->Up (arrOf st) lo (lo+n)->(n=nrem\/K (arrOf st) (lo+n) < K (arrOf st) (lo+n - 1))->Q (none,n) st):wpS (model prog w) A E s (jb lo a nrem) Q st:=by
 unfold jb
 refine wpS_forRange (I:=fun x c st'=>st' = st/\c=(none,x)/\Up (arrOf st) lo (lo+x)) ?_ ?_ ⟨rfl,rfl,hs⟩
 ·rintro x c st' hax hxn ⟨rfl,rfl,hs'⟩
  refine wpS_bind (fM hB h0 (show lo+x < a₀.size by omega) (show lo+x - 1 < a₀.size by omega) ?_)
  by_cases hl:K (arrOf st') (lo+x) < K (arrOf st') (lo+x - 1)
  ·rw [decide_eq_true hl]
   exact wpS_pure (h x hax (by omega) hs' (.inr hl))
  ·rw [decide_eq_false hl]
   refine wpS_pure ⟨rfl,rfl,fun i j h1 h2 h3=>?_⟩
   by_cases hj:j < lo+x
   ·exact hs' i j h1 h2 hj
   ·obtain rfl:j=lo+x:=by omega
    by_cases hi:i=lo+x
    ·rw [hi];exact Int.le_refl _
    ·exact Int.le_trans (hs' i (lo+x - 1) h1 (by omega) (by omega)) (Int.not_lt.mp hl)
 ·rintro c st' ⟨rfl,rfl,hs'⟩
  rw [show max a nrem=nrem by omega] at hs' ⊢
  exact h nrem han (Nat.le_refl _) hs' (.inl rfl)
def m6 (lo n nrem:Nat):StateT SortSt Sem (Option (Option Nat) × Nat × Nat):=forIn [n:nrem] ((none,n,0):Option (Option Nat) × Nat × Nat) fun _ c=>ltAt' (lo+c.2.1) (lo+c.2.1 - 1) >>= fun z =>
 match z with
 | some r=>if r=true then (if c.2.2 > 0 then reverseSlice' (lo+c.2.1 - (c.2.2+1)) (lo+c.2.1) >>= fun _=>pure (ForInStep.yield (none,c.2.1+1,0)) else pure (ForInStep.yield (none,c.2.1+1,0)))
  else ltAt' (lo+c.2.1 - 1) (lo+c.2.1) >>= fun u=>match u with
   | some l=>if l=true then pure (ForInStep.done (none,c.2.1,c.2.2)) else pure (ForInStep.yield (none,c.2.1+1,c.2.2+1))
   | _=>pure (ForInStep.done (some none,c.2.1,c.2.2))
 | _=>pure (ForInStep.done (some none,c.2.1,c.2.2))
theorem pI {n nrem:Nat} {Q:Option (Option Nat) × Nat × Nat->SortSt->Prop} (h0:IntKeys a₀) (hn:lo+nrem<=a₀.size) (h1:1<=n) (hnn:n<=nrem) (hB:TB a₀ lo F pd st) (hs:Dn (arrOf st) lo (lo+n))
  (h:∀ m q st',TB a₀ lo F pd st'->n<=m->m<=nrem->Dn (arrOf st') lo (lo+m)->q+1<=m->(∀ i,lo+m - (q+1)<=i->i < lo+m->K (arrOf st') i=K (arrOf st') (lo+m - 1))->Q (none,m,q) st'):wpS (model prog w) A E s (m6 lo n nrem) Q st:=by
 unfold m6
 refine wpS_forRange (I:=fun x c st'=>∃ q,c=(none,x,q)/\TB a₀ lo F pd st'/\Dn (arrOf st') lo (lo+x)/\q+1<=x/\(∀ i,lo+x - (q+1)<=i->i < lo+x->K (arrOf st') i=K (arrOf st') (lo+x - 1))) ?_ ?_ ⟨0,rfl,hB,hs,by omega,fun i h1 h2=>by congr 1;omega⟩
 ·rintro x c st' hax hxn ⟨q,rfl,hB',hs',hq,he⟩
  refine wpS_bind (fM hB' h0 (show lo+x < a₀.size by omega) (show lo+x - 1 < a₀.size by omega) ?_)
  by_cases hl:K (arrOf st') (lo+x) < K (arrOf st') (lo+x - 1)
  ·rw [decide_eq_true hl]
   have step1:∀ xs:Array Keyed,(∀ k,K xs k=K (arrOf st') k)->Dn xs lo (lo+(x+1)):=fun xs hk i j h1 h2 h3=>by
    rw [hk,hk]
    by_cases hj:j < lo+x
    ·exact hs' i j h1 h2 hj
    ·obtain rfl:j=lo+x:=by omega
     by_cases hi:i=lo+x
     ·rw [hi];exact Int.le_refl _
     ·exact Int.le_trans (Int.le_of_lt hl) (hs' i (lo+x - 1) h1 (by omega) (by omega))
   dsimp only
   rw [if_pos rfl]
   by_cases hq0:q > 0
   ·rw [if_pos hq0]
    exact wpS_bind (iJ (wpS_pure ⟨0,rfl,hB'.rev (by omega) (show lo+x<=a₀.size by omega),step1 _ (K_mirror_equal (by rw [hB'.size];omega) he),by omega,fun i h1 h2=>by congr 1;omega⟩))
   ·rw [if_neg hq0]
    exact wpS_pure ⟨0,rfl,hB',step1 _ (fun _=>rfl),by omega,fun i h1 h2=>by congr 1;omega⟩
  ·rw [decide_eq_false hl]
   refine wpS_bind (fM hB' h0 (show lo+x - 1 < a₀.size by omega) (show lo+x < a₀.size by omega) ?_)
   by_cases hr:K (arrOf st') (lo+x - 1) < K (arrOf st') (lo+x)
   ·rw [decide_eq_true hr]
    exact wpS_pure (h x q st' hB' hax (by omega) hs' hq he)
   ·rw [decide_eq_false hr]
    have hx:K (arrOf st') (lo+x)=K (arrOf st') (lo+x - 1):=by omega
    refine wpS_pure ⟨q+1,rfl,hB',fun i j h1 h2 h3=>?_,by omega,fun i h1 h2=>?_⟩
    ·by_cases hj:j < lo+x
     ·exact hs' i j h1 h2 hj
     ·obtain rfl:j=lo+x:=by omega
      by_cases hi:i=lo+x
      ·rw [hi];exact Int.le_refl _
      ·rw [hx];exact hs' i (lo+x - 1) h1 (by omega) (by omega)
    ·rw [show lo+(x+1) - 1=lo+x by omega]
     by_cases hi:i=lo+x
     ·rw [hi]
     ·rw [hx];exact he i (by omega) (by omega)
 ·rintro c st' ⟨q,rfl,hB',hs',hq,he⟩
  rw [show max n nrem=nrem by omega] at hs' hq he ⊢
  exact h nrem q st' hB' hnn (Nat.le_refl _) hs' hq he
theorem pJ {nrem:Nat} {Q:Option Nat->SortSt->Prop} (h0:IntKeys a₀) (hn:lo+nrem<=a₀.size) (h1:1<=nrem) (hB:TB a₀ lo F pd st)
  (h:∀ m st',TB a₀ lo F pd st'->1<=m->m<=nrem->Up (arrOf st') lo (lo+m)->Q (some m) st'):wpS (model prog w) A E s (countRun' lo nrem) Q st:=by
 have tail:∀ {st:SortSt} {n:Nat} (R:Option (Option Nat) × Nat->StateT SortSt Sem (Option Nat)),(∀ m,R (none,m)=pure (some m))->1<=n->n<=nrem->TB a₀ lo F pd st->Dn (arrOf st) lo (lo+n) ->
   wpS (model prog w) A E s (reverseSlice' lo (lo+n) >>= fun _=>jb lo n nrem >>= R) Q st:=fun {st n} R hR h1 hnn hB hs=>by
  have hB':=hB.rev (Nat.le_refl lo) (show lo+n<=a₀.size by omega)
  refine wpS_bind (iJ (wpS_bind (md h0 hn h1 hnn hB' (fun i j g1 g2 g3=>?_) fun m m1 m2 m3 _=>?_)))
  ·show K (mirror (arrOf st) lo (lo+n) ((lo+n - lo) / 2)) i<=K (mirror (arrOf st) lo (lo+n) ((lo+n - lo) / 2)) j
   rw [K_mirror (by rw [hB.size];omega),K_mirror (by rw [hB.size];omega),if_pos (by omega),if_pos (by omega)]
   exact hs _ _ (by omega) (by omega) (by omega)
  ·rw [hR m]
   exact wpS_pure (h m _ hB' (by omega) m2 m3)
 have down:∀ {st:SortSt} {n:Nat} (R2:Option (Option Nat) × Nat × Nat->StateT SortSt Sem (Option Nat)) (R:Option (Option Nat) × Nat->StateT SortSt Sem (Option Nat)),
   (∀ m q,R2 (none,m,q)=if q > 0 then reverseSlice' (lo+m - (q+1)) (lo+m) >>= fun _=>reverseSlice' lo (lo+m) >>= fun _=>jb lo m nrem >>= R else reverseSlice' lo (lo+m) >>= fun _=>jb lo m nrem >>= R) ->
   (∀ m,R (none,m)=pure (some m))->n+1<=nrem->TB a₀ lo F pd st->Dn (arrOf st) lo (lo+(n+1))->wpS (model prog w) A E s (m6 lo (n+1) nrem >>= R2) Q st:=fun {st n} R2 R hR2 hR hnn hB hs=>by
  refine wpS_bind (pI h0 hn (by omega) hnn hB hs fun m q st' hB' m1 m2 m3 m4 m5=>?_)
  rw [hR2 m q]
  by_cases hq:q > 0
  ·rw [if_pos hq]
   refine wpS_bind (iJ (tail R hR (by omega) m2 (hB'.rev (by omega) (show lo+m<=a₀.size by omega)) fun i j g1 g2 g3=>?_))
   show K (mirror (arrOf st') _ _ _) j<=K (mirror (arrOf st') _ _ _) i
   rw [K_mirror_equal (by rw [hB'.size];omega) m5,K_mirror_equal (by rw [hB'.size];omega) m5]
   exact m3 i j g1 g2 g3
  ·rw [if_neg hq]
   exact tail R hR (by omega) m2 hB' m3
 refine wpS_bind (m:=jb lo 1 nrem) (md h0 hn (Nat.le_refl 1) h1 hB (fun i j g1 g2 g3=>Int.le_of_eq (congrArg (K (arrOf st)) (show i=j by omega))) fun n n1 n2 n3 n4=>?_)
 dsimp only
 by_cases hnn:n=nrem
 ·rw [if_pos (by simpa using hnn)]
  exact wpS_pure (h n st hB n1 n2 n3)
 rw [if_neg (by simpa using hnn)]
 have hlt:=n4.resolve_left hnn
 by_cases hgt:n > 1
 ·rw [if_pos hgt]
  refine wpS_bind (fM hB h0 (show lo < a₀.size by omega) (show lo+n - 1 < a₀.size by omega) ?_)
  by_cases hr:K (arrOf st) lo < K (arrOf st) (lo+n - 1)
  ·rw [decide_eq_true hr]
   exact wpS_pure (h n st hB n1 n2 n3)
  rw [decide_eq_false hr]
  have hall:∀ k,lo<=k->k < lo+n->K (arrOf st) k=K (arrOf st) (lo+n - 1):=fun k g1 g2=>by
   have a1:=n3 lo k (Nat.le_refl lo) g1 g2
   have a2:=n3 k (lo+n - 1) g1 (by omega) (by omega)
   omega
  dsimp only
  rw [if_neg (by decide)]
  refine wpS_bind (iJ (wpS_bind (wpS_lift (wpAny_rule ⟨rfl,?_⟩))))
  refine down _ _ (fun m q=>rfl) (fun m=>rfl) (by omega) (hB.rev (Nat.le_refl lo) (show lo+n<=a₀.size by omega)) fun i j g1 g2 g3=>?_
  show K (mirror (arrOf st) _ _ _) j<=K (mirror (arrOf st) _ _ _) i
  rw [K_mirror_equal (by rw [hB.size];omega) hall,K_mirror_equal (by rw [hB.size];omega) hall]
  by_cases hj:j < lo+n
  ·rw [hall i g1 (by omega),hall j (by omega) hj];exact Int.le_refl _
  ·obtain rfl:j=lo+n:=by omega
   by_cases hi:i=lo+n
   ·rw [hi];exact Int.le_refl _
   ·rw [hall i g1 (by omega)];exact Int.le_of_lt hlt
 ·rw [if_neg hgt]
  obtain rfl:n=1:=by omega
  refine wpS_bind (wpS_lift (wpAny_rule ⟨rfl,?_⟩))
  refine down _ _ (fun m q=>rfl) (fun m=>rfl) (by omega) hB fun i j g1 g2 g3=>?_
  by_cases hi:i=j
  ·rw [hi];exact Int.le_refl _
  ·obtain rfl:i=lo:=by omega
   obtain rfl:j=i+1:=by omega
   exact Int.le_of_lt hlt
theorem sj {n ok:Nat} {Q:Bool->SortSt->Prop} (h0:IntKeys a₀) (hn:lo+n<=a₀.size) (av:ok<=n) (hB:TB a₀ lo F pd st) (hs:Up (arrOf st) lo (lo+ok))
  (h:∀ st',TB a₀ lo F pd st'->Up (arrOf st') lo (lo+n)->Q true st'):wpS (model prog w) A E s (binarySort' lo n ok) Q st:=by
 refine wpS_bind (wpS_mono (wpS_forRange (I:=fun k c st'=>c=(none,())/\TB a₀ lo F pd st'/\Up (arrOf st') lo (lo+min k n)) (Q:=fun c st'=>c=(none,())/\TB a₀ lo F pd st'/\Up (arrOf st') lo (lo+n)) ?_ ?_ ?_) ?_)
 ·rintro k c st' hak hkn ⟨rfl,hB',hs'⟩
  rw [show min k n=k by omega] at hs'
  refine wpS_bind (wpS_mono (wpS_forRange (I:=fun x c st''=>st'' = st'/\∃ l r,c=(none,l,r)/\l<=r/\r<=k/\r - l<=k - x/\(∀ i,i < l->K (arrOf st') (lo+i)<=K (arrOf st') (lo+k))/\(∀ i,r<=i->i < k->K (arrOf st') (lo+k) < K (arrOf st') (lo+i)))
   (Q:=fun c st''=>st'' = st'/\∃ l r,c=(none,l,r)/\l<=k/\(∀ i,i < l->K (arrOf st') (lo+i)<=K (arrOf st') (lo+k))/\(∀ i,l<=i->i < k->K (arrOf st') (lo+k) < K (arrOf st') (lo+i))) ?_ ?_ ⟨rfl,0,k,rfl,by omega,by omega,by omega,fun i hi=>by omega,fun i g1 g2=>by omega⟩) ?_)
  ·rintro x c st'' _ hxk ⟨rfl,l,r,rfl,hlr,hrk,hm,hlo,hhi⟩
   dsimp only
   by_cases hge:l >= r
   ·rw [if_pos hge]
    obtain rfl:l=r:=by omega
    exact wpS_pure ⟨rfl,l,l,rfl,hrk,hlo,hhi⟩
   ·rw [if_neg hge]
    refine wpS_bind (fM hB' h0 (show lo+k < a₀.size by omega) (show lo+(l+r) / 2 < a₀.size by omega) ?_)
    by_cases hl:K (arrOf st'') (lo+k) < K (arrOf st'') (lo+(l+r) / 2)
    ·rw [decide_eq_true hl]
     refine wpS_pure ⟨rfl,l,(l+r) / 2,rfl,by omega,by omega,by omega,hlo,fun i g1 g2=>?_⟩
     exact Int.lt_of_lt_of_le hl (hs' _ _ (by omega) (by omega) (by omega))
    ·rw [decide_eq_false hl]
     refine wpS_pure ⟨rfl,(l+r) / 2+1,r,rfl,by omega,by omega,by omega,fun i g1=>?_,hhi⟩
     exact Int.le_trans (hs' (lo+i) (lo+(l+r) / 2) (by omega) (by omega) (by omega)) (Int.not_lt.mp hl)
  ·rintro c st'' ⟨rfl,l,r,rfl,hlr,hrk,hm,hlo,hhi⟩
   obtain rfl:l=r:=by omega
   exact⟨rfl,l,l,rfl,hrk,hlo,hhi⟩
  ·rintro c st'' ⟨rfl,l,r,rfl,hlk,hlo,hhi⟩
   have hks:lo+k < (arrOf st'').size:=by rw [hB'.size];omega
   have hd:lo+k - (lo+l)<=lo+k:=by omega
   show wpS _ _ _ _ (moveDown' (lo+k) (lo+l) >>= fun _=>pure (ForInStep.yield (none,()))) _ _
   rw [moveDown'_eq]
   refine wpS_bind (wpS_modify (wpS_pure ⟨rfl,hB'.si (bubble_perm _ _ _) (fun j hj=>?_),?_⟩))
   ·rw [getElem?_bubble hks _ hd,if_neg (by omega),if_neg (by omega)]
   ·rw [show min (k+1) n=k+1 by omega]
    intro i j g1 g2 g3
    show K (bubble (arrOf st'') (lo+k) (lo+k - (lo+l))) i<=K (bubble (arrOf st'') (lo+k) (lo+k - (lo+l))) j
    rw [K_bubble hks hd,K_bubble hks hd,show lo+k - (lo+k - (lo+l))=lo+l by omega]
    have hlo':∀ i,lo<=i->i < lo+l->K (arrOf st'') i<=K (arrOf st'') (lo+k):=fun i g1 g2=>by
     have:=hlo (i - lo) (by omega)
     rwa [show lo+(i - lo)=i by omega] at this
    have hhi':∀ i,lo+l<=i->i < lo+k->K (arrOf st'') (lo+k) < K (arrOf st'') i:=fun i g1 g2=>by
     have:=hhi (i - lo) (by omega) (by omega)
     rwa [show lo+(i - lo)=i by omega] at this
    repeat' split
    all_goals first
     | (exfalso;omega)
     | exact Int.le_refl _
     | exact hlo' _ (by omega) (by omega)
     | exact Int.le_of_lt (hhi' _ (by omega) (by omega))
     | exact hs' _ _ (by omega) (by omega) (by omega)
 ·rintro c st' ⟨hc,hB',hs'⟩
  rw [show min (max (max ok 1) n) n=n by omega] at hs'
  exact⟨hc,hB',hs'⟩
 ·refine⟨rfl,hB,fun i j g1 g2 g3=>?_⟩
  by_cases hz:ok=0
  ·obtain rfl:i=j:=by omega
   exact Int.le_refl _
  ·exact hs i j g1 g2 (by omega)
 ·rintro c st' ⟨rfl,hB',hs'⟩
  exact wpS_pure (h st' hB' hs')
end
end dn
namespace dn
open PySem PyProof.Rows
def d7 (pd:Array (Nat × Nat × Nat)):List (Nat × Nat):=pd.toList.map fun x=>(x.1,x.2.1)
def Runs:Nat->List (Nat × Nat)->List (List Keyed)->Prop
 | _,[],[]=>True
 | s,(a,n) :: l,r :: rs=>a=s/\r.length=n/\0 < n/\bp r/\Runs (s+n) l rs
 | _,_,_=>False
theorem Runs.cons_inv {s a n:Nat} {l:List (Nat × Nat)} {rs:List (List Keyed)} (h:Runs s ((a,n) :: l) rs):∃ r rs',rs=r :: rs'/\a=s/\r.length=n/\0 < n/\bp r/\Runs (s+n) l rs':=by
 cases rs with
 | nil=>exact h.elim
 | cons r rs=>exact⟨r,rs,rfl,h⟩
theorem Runs.app:∀ {l1 l2:List (Nat × Nat)} {s:Nat} {rs:List (List Keyed)},Runs s (l1++l2) rs->∃ r1 r2,rs=r1++r2/\Runs s l1 r1/\Runs (s+r1.flatten.length) l2 r2
 | [],l2,s,rs,h=>⟨[],rs,rfl,trivial,h⟩
 | (a,n) :: l1,l2,s,rs,h=>by
  obtain⟨r,rs',rfl,e1,e2,e3,e4,h'⟩:=Runs.cons_inv h
  obtain⟨r1,r2,rfl,g1,g2⟩:=Runs.app h'
  refine⟨r :: r1,r2,rfl,⟨e1,e2,e3,e4,g1⟩,?_⟩
  rw [List.flatten_cons,List.length_append,e2,<-Nat.add_assoc]
  exact g2
theorem Runs.join:∀ {l1 l2:List (Nat × Nat)} {s:Nat} {r1 r2:List (List Keyed)},Runs s l1 r1->Runs (s+r1.flatten.length) l2 r2->Runs s (l1++l2) (r1++r2)
 | [],l2,s,[],r2,_,h=>h
 | [],l2,s,_ :: _,r2,h,_=>h.elim
 | (a,n) :: l1,l2,s,r1,r2,h1,h2=>by
  obtain⟨r,rs',rfl,e1,e2,e3,e4,h'⟩:=Runs.cons_inv h1
  refine⟨e1,e2,e3,e4,Runs.join h' ?_⟩
  rw [List.flatten_cons,List.length_append,e2,<-Nat.add_assoc] at h2
  exact h2
theorem Runs.len:∀ {l:List (Nat × Nat)} {s:Nat} {rs:List (List Keyed)},Runs s l rs->l.length=rs.length/\rs.length<=rs.flatten.length
 | [],s,[],_=>⟨rfl,Nat.le_refl _⟩
 | [],s,_ :: _,h=>h.elim
 | (a,n) :: l,s,rs,h=>by
  obtain⟨r,rs',rfl,e1,e2,e3,e4,h'⟩:=Runs.cons_inv h
  obtain⟨g1,g2⟩:=Runs.len h'
  rw [List.flatten_cons,List.length_append,List.length_cons,List.length_cons]
  omega
structure RI (a₀ : Array Keyed) (lo:Nat) (rest:List Keyed) (st:SortSt):Prop where
 perm:(arrOf st).Perm a₀
 kind:kindOf st=oneType'
 failed:failedOf st=none
 runs:∃ rs,(arrOf st).toList=rs.flatten++rest/\rs.flatten.length=lo/\Runs 0 (d7 (pendingOf st)) rs
theorem n5 {α : Type}:∀ {l:List α} {i:Nat} {x y:α},l[i]? = some x->l[i+1]? = some y->∃ p1 p2,l=p1++x :: y :: p2/\p1.length=i
 | [],i,x,y,h,_=>by simp at h
 | a :: l,0,x,y,h,g=>by
  cases l with
  | nil=>simp at g
  | cons b l =>
   simp at h g
   exact⟨[],l,by rw [h,g];rfl,rfl⟩
 | a :: l,i+1,x,y,h,g=>by
  obtain⟨p1,p2,e,el⟩:=n5 (l:=l) (i:=i) (by simpa using h) (by simpa using g)
  exact⟨a :: p1,p2,by rw [e];rfl,by rw [List.length_cons,el]⟩
theorem jB {α : Type} (x y v:α) (p2:List α):∀ p1:List α,((p1++x :: y :: p2).set p1.length v).eraseIdx (p1.length+1)=p1++v :: p2
 | []=>rfl
 | a :: p1=>by
  show a :: ((p1++x :: y :: p2).set p1.length v).eraseIdx (p1.length+1)=_
  rw [jB x y v p2 p1]
  rfl
theorem q9 {xs:Array Keyed} {lo n:Nat} (h:Up xs lo (lo+n)) (hn:lo+n<=xs.size):bp (cm xs lo n):=by
 refine List.pairwise_iff_getElem.mpr fun i j hi hj hij=>?_
 have hl:(cm xs lo n).length=n:=by rw [List.length_take,List.length_drop,Array.length_toList];omega
 have e:∀ k (hk:k < (cm xs lo n).length),kn (cm xs lo n)[k] = K xs (lo+k):=fun k hk=>by
  have h1:(cm xs lo n)[k]? = xs[lo+k]?:=eW (by omega)
  rw [List.getElem?_eq_getElem hk] at h1
  unfold K
  rw [<-h1]
  rfl
 rw [e i hi,e j hj]
 exact h _ _ (by omega) (by omega) (by omega)
section
variable {prog:Program} {w:World} {A:Around} {E:Value->Shared->Prop} {s:Shared} {st:SortSt} {a₀ : Array Keyed} {lo:Nat} {rest:List Keyed}
theorem RI.merge {i:Nat} {Q:Bool->SortSt->Prop} (h0:IntKeys a₀) (hR:RI a₀ lo rest st) (hi:i+1 < (pendingOf st).size) (h:∀ st',RI a₀ lo rest st'->(pendingOf st').size+1=(pendingOf st).size->Q true st'):wpS (model prog w) A E s (mergeAt' i) Q st:=by
 obtain⟨rs,eL,el,hr⟩:=hR.runs
 obtain⟨⟨sa,na,pw⟩,e1⟩:∃ x,(pendingOf st)[i]? = some x:=⟨_,getElem?_pos (pendingOf st) i (by omega)⟩
 obtain⟨⟨sb,nb,q⟩,e2⟩:∃ x,(pendingOf st)[i+1]? = some x:=⟨_,getElem?_pos (pendingOf st) (i+1) hi⟩
 obtain⟨p1,p2,ep,lp⟩:=n5 (l:=(pendingOf st).toList) (i:=i) (by rw [Array.getElem?_toList];exact e1) (by rw [Array.getElem?_toList];exact e2)
 have epr:d7 (pendingOf st)=p1.map (fun x=>(x.1,x.2.1))++(sa,na) :: (sb,nb) :: p2.map (fun x=>(x.1,x.2.1)):=by
  unfold d7
  rw [ep,List.map_append,List.map_cons,List.map_cons]
 rw [epr] at hr
 obtain⟨r1,r2,rfl,g1,g2⟩:=Runs.app hr
 obtain⟨X,r3,rfl,x1,x2,x3,x4,g3⟩:=Runs.cons_inv g2
 obtain⟨Y,r4,rfl,y1,y2,y3,y4,g4⟩:=Runs.cons_inv g3
 rw [Nat.zero_add] at x1 y1 g4
 have eL':(arrOf st).toList=r1.flatten++(X++(Y++(r4.flatten++rest))):=by
  rw [eL,List.flatten_append,List.flatten_cons,List.flatten_cons]
  simp only [List.append_assoc]
 have hints:∀ p ∈ (arrOf st).toList,cJ p:=fun p hp=>h0 p ((Array.perm_iff_toList_perm.mp hR.perm).mem_iff.mp hp)
 refine mZ hR.kind hR.failed hints e1 (by rw [e2,y1,x1]) eL' x1.symm x2 y2 x3 y3 x4 y4 fun st' C c1 c2 c3 c4 c5 c6=>?_
 have hsz:(pendingOf st').size+1=(pendingOf st).size:=by
  rw [c3,<-Array.length_toList,Array.toList_eraseIdxIfInBounds,Array.toList_setIfInBounds,List.length_eraseIdx,List.length_set,if_pos (by rw [Array.length_toList];exact hi),Array.length_toList]
  omega
 refine h st' ⟨?_,c1,c2,r1++C :: r4,?_,?_,?_⟩ hsz
 ·refine Array.Perm.trans ?_ hR.perm
  refine Array.perm_iff_toList_perm.mpr ?_
  rw [c4,eL']
  refine List.Perm.append_left _ ?_
  rw [<-List.append_assoc X Y]
  exact List.Perm.append_right _ c5
 ·rw [c4,List.flatten_append,List.flatten_cons]
  simp only [List.append_assoc]
 ·rw [<-el]
  simp only [List.flatten_append,List.flatten_cons,List.length_append,c5.length_eq]
  omega
 ·have e3:d7 (pendingOf st')=p1.map (fun x=>(x.1,x.2.1))++(sa,na+nb) :: p2.map (fun x=>(x.1,x.2.1)):=by
   unfold d7
   rw [c3,Array.toList_eraseIdxIfInBounds,Array.toList_setIfInBounds,ep,<-lp,jB,List.map_append,List.map_cons]
  rw [e3]
  refine Runs.join g1 ⟨by rw [x1,Nat.zero_add],by rw [c5.length_eq,List.length_append,x2,y2],by omega,c6,?_⟩
  rw [Nat.zero_add,<-Nat.add_assoc]
  exact g4
theorem j8 {α : Type} {c:Prop} [Decidable c] {x y:StateT SortSt Sem α} {Q:α->SortSt->Prop} (h1:c->wpS (model prog w) A E s x Q st) (h2:¬ c->wpS (model prog w) A E s y Q st):wpS (model prog w) A E s (if c then x else y) Q st:=by
 by_cases h:c
 ·rw [if_pos h];exact h1 h
 ·rw [if_neg h];exact h2 h
theorem RI.push {r:List Keyed} {n:Nat} (h:RI a₀ lo (r++rest) st) (hl:r.length=n) (hn:0 < n) (hs:bp r):RI a₀ (lo+n) rest (setPending st ((pendingOf st).push (lo,n,0))):=by
 obtain⟨rs,eL,el,hr⟩:=h.runs
 refine⟨h.perm,h.kind,h.failed,rs ++ [r],?_,?_,?_⟩
 ·show (arrOf st).toList=_
  rw [eL,List.flatten_append,List.flatten_cons,List.flatten_nil,List.append_nil,List.append_assoc]
 ·rw [List.flatten_append,List.flatten_cons,List.flatten_nil,List.append_nil,List.length_append,el,hl]
 ·show Runs 0 (d7 ((pendingOf st).push (lo,n,0))) _
  unfold d7
  rw [Array.toList_push,List.map_append]
  refine Runs.join hr ⟨by rw [Nat.zero_add];exact el.symm,hl,hn,hs,trivial⟩
theorem RI.mod {i pw:Nat} (h:RI a₀ lo rest st):RI a₀ lo rest (setPending st ((pendingOf st).modify i fun x=>(x.1,x.2.1,pw))):=by
 obtain⟨rs,eL,el,hr⟩:=h.runs
 refine⟨h.perm,h.kind,h.failed,rs,eL,el,?_⟩
 have e:d7 ((pendingOf st).modify i fun x=>(x.1,x.2.1,pw))=d7 (pendingOf st):=by
  unfold d7
  refine List.ext_getElem? fun j=>?_
  rw [List.getElem?_map,List.getElem?_map,Array.getElem?_toList,Array.getElem?_toList,Array.getElem?_modify]
  split
  ·cases (pendingOf st)[j]? <;> rfl
  ·rfl
 show Runs 0 (d7 ((pendingOf st).modify i fun x=>(x.1,x.2.1,pw))) rs
 rw [e]
 exact hr
theorem lK {Q:Unit->SortSt->Prop} (h0:IntKeys a₀) (hp:(arrOf st).Perm a₀) (hk:kindOf st=oneType') (hf:failedOf st=none) (hpd:pendingOf st = #[])
  (h:∀ st',(arrOf st').Perm a₀->failedOf st' = none->SortedTo (arrOf st') a₀.size->Q () st'):wpS (model prog w) A E s sortRuns' Q st:=by
 have hsz:(arrOf st).size=a₀.size:=hp.size_eq
 refine wpS_bind (wpS_get ?_)
 have hR0:RI a₀ 0 (arrOf st).toList st:=⟨hp,hk,hf,[],rfl,rfl,by unfold d7;rw [hpd];exact trivial⟩
 refine wpS_bind (wpS_mono (wpS_forRange (I:=fun x c st'=>∃ lo rest,c=(none,lo)/\RI a₀ lo rest st'/\x<=lo/\lo+rest.length=a₀.size) (Q:=fun c st'=>c=(none,a₀.size)/\RI a₀ a₀.size [] st') ?_ ?_ ⟨0,_,rfl,hR0,Nat.le_refl _,by rw [Array.length_toList,hsz];omega⟩) ?_)
 ·rintro x c st' _ hx ⟨lo,rest,rfl,hR,hxl,hlr⟩
  dsimp only
  by_cases hge:lo >= (arrOf st).size
  ·rw [if_pos hge]
   rw [hsz] at hge
   obtain rfl:lo=a₀.size:=by omega
   obtain rfl:rest = []:=List.length_eq_zero_iff.mp (by omega)
   exact wpS_pure ⟨rfl,hR⟩
  rw [if_neg hge]
  rw [hsz] at hge
  obtain⟨rs,eL,el,hr⟩:=hR.runs
  have hT:TB a₀ lo rs.flatten (pendingOf st') st':=⟨hR.perm,hR.kind,hR.failed,rfl,by rw [eL,<-el,List.take_left]⟩
  have hrem:lo+((arrOf st).size - lo)=a₀.size:=by rw [hsz];omega
  have next:∀ (n:Nat) (st2:SortSt),TB a₀ lo rs.flatten (pendingOf st') st2->1<=n->lo+n<=a₀.size->Up (arrOf st2) lo (lo+n)->∃ r rest',RI a₀ lo (r++rest') st2/\r.length=n/\bp r/\lo+n+rest'.length=a₀.size:=fun n st2 hT2 n1 n2 hU=>by
   have hz2:=hT2.size
   have e1:(arrOf st2).toList=rs.flatten++(cm (arrOf st2) lo n++(arrOf st2).toList.drop (lo+n)):=by
    rw [<-List.drop_drop,List.take_append_drop,<-hT2.pre,List.take_append_drop]
   refine⟨cm (arrOf st2) lo n,(arrOf st2).toList.drop (lo+n),⟨hT2.perm,hT2.kind,hT2.failed,rs,e1,el,by rw [hT2.pend];exact hr⟩,?_,q9 hU (by omega),?_⟩
   ·rw [List.length_take,List.length_drop,Array.length_toList];omega
   ·rw [List.length_drop,Array.length_toList];omega
  refine wpS_bind (pJ h0 (Nat.le_of_eq hrem) (by rw [hsz];omega) hT fun m st2 hT2 m1 m2 m3=>?_)
  rw [hsz] at m2
  dsimp only
  refine j8 (fun hlt=>?_) (fun hlt=>?_)
  ·have hlt:m < minRun' (arrOf st).size (arrOf st).size 0:=hlt
   have f1:m<=min ((arrOf st).size - lo) (minRun' (arrOf st).size (arrOf st).size 0):=by omega
   have f2:lo+(min ((arrOf st).size - lo) (minRun' (arrOf st).size (arrOf st).size 0))<=a₀.size:=by omega
   refine wpS_bind (wpS_lift (wpAny_rule ⟨rfl,?_⟩))
   refine wpS_bind (sj (n:=min ((arrOf st).size - lo) (minRun' (arrOf st).size (arrOf st).size 0)) h0 f2 f1 hT2 m3 fun st4 hT4 hU4=>?_)
   rw [if_neg (by decide)]
   obtain⟨r,rest',hRI,hrl,hrs,hlen⟩:=next (min ((arrOf st).size - lo) (minRun' (arrOf st).size (arrOf st).size 0)) st4 hT4 (by omega) f2 hU4
   refine wpS_bind (wpS_get ?_)
   cases hb:(pendingOf st4).back? with
   | none =>
    dsimp only
    exact wpS_bind (wpS_modify (wpS_pure ⟨_,rest',rfl,hRI.push hrl (show 0 < min ((arrOf st).size - lo) (minRun' (arrOf st).size (arrOf st).size 0) by omega) hrs,(show x+1<=lo+(min ((arrOf st).size - lo) (minRun' (arrOf st).size (arrOf st).size 0)) by omega),(show lo+(min ((arrOf st).size - lo) (minRun' (arrOf st).size (arrOf st).size 0))+rest'.length=a₀.size by omega)⟩))
   | some p =>
    obtain⟨s1,n1',pw⟩:=p
    dsimp only
    refine wpS_bind (wpS_mono (wpS_forRange (I:=fun _ c st3=>c=(none,())/\RI a₀ lo (r++rest') st3) (Q:=fun c st3=>c=(none,())/\RI a₀ lo (r++rest') st3) ?_ (fun _ _ z=>z) ⟨rfl,hRI⟩) ?_)
    ·rintro x3 c st3 _ _ ⟨rfl,hR3⟩
     refine wpS_bind (wpS_get ?_)
     by_cases hp1:(pendingOf st3).size > 1
     ·rw [if_pos hp1]
      obtain⟨⟨u1,u2,older⟩,eo⟩:∃ y,(pendingOf st3)[(pendingOf st3).size - 2]? = some y:=⟨_,getElem?_pos (pendingOf st3) ((pendingOf st3).size - 2) (by omega)⟩
      rw [eo]
      dsimp only
      refine j8 (fun _=>wpS_pure ⟨rfl,hR3⟩) fun _=>wpS_bind (hR3.merge h0 (show (pendingOf st3).size - 2+1 < (pendingOf st3).size by omega) fun st4 hR4 _=>?_)
      rw [if_neg (by decide)]
      exact wpS_pure ⟨rfl,hR4⟩
     ·rw [if_neg hp1]
      exact wpS_pure ⟨rfl,hR3⟩
    ·rintro c st3 ⟨rfl,hR3⟩
     dsimp only
     exact wpS_bind (wpS_modify (wpS_bind (wpS_modify (wpS_pure ⟨_,rest',rfl,(RI.mod hR3).push hrl (show 0 < min ((arrOf st).size - lo) (minRun' (arrOf st).size (arrOf st).size 0) by omega) hrs,(show x+1<=lo+(min ((arrOf st).size - lo) (minRun' (arrOf st).size (arrOf st).size 0)) by omega),(show lo+(min ((arrOf st).size - lo) (minRun' (arrOf st).size (arrOf st).size 0))+rest'.length=a₀.size by omega)⟩))))
  ·obtain⟨r,rest',hRI,hrl,hrs,hlen⟩:=next m st2 hT2 m1 (by omega) m3
   refine wpS_bind (wpS_get ?_)
   cases hb:(pendingOf st2).back? with
   | none =>
    dsimp only
    exact wpS_bind (wpS_modify (wpS_pure ⟨_,rest',rfl,hRI.push hrl (show 0 < m by omega) hrs,(show x+1<=lo+m by omega),(show lo+m+rest'.length=a₀.size by omega)⟩))
   | some p =>
    obtain⟨s1,n1',pw⟩:=p
    dsimp only
    refine wpS_bind (wpS_mono (wpS_forRange (I:=fun _ c st3=>c=(none,())/\RI a₀ lo (r++rest') st3) (Q:=fun c st3=>c=(none,())/\RI a₀ lo (r++rest') st3) ?_ (fun _ _ z=>z) ⟨rfl,hRI⟩) ?_)
    ·rintro x3 c st3 _ _ ⟨rfl,hR3⟩
     refine wpS_bind (wpS_get ?_)
     by_cases hp1:(pendingOf st3).size > 1
     ·rw [if_pos hp1]
      obtain⟨⟨u1,u2,older⟩,eo⟩:∃ y,(pendingOf st3)[(pendingOf st3).size - 2]? = some y:=⟨_,getElem?_pos (pendingOf st3) ((pendingOf st3).size - 2) (by omega)⟩
      rw [eo]
      dsimp only
      refine j8 (fun _=>wpS_pure ⟨rfl,hR3⟩) fun _=>wpS_bind (hR3.merge h0 (show (pendingOf st3).size - 2+1 < (pendingOf st3).size by omega) fun st4 hR4 _=>?_)
      rw [if_neg (by decide)]
      exact wpS_pure ⟨rfl,hR4⟩
     ·rw [if_neg hp1]
      exact wpS_pure ⟨rfl,hR3⟩
    ·rintro c st3 ⟨rfl,hR3⟩
     dsimp only
     exact wpS_bind (wpS_modify (wpS_bind (wpS_modify (wpS_pure ⟨_,rest',rfl,(RI.mod hR3).push hrl (show 0 < m by omega) hrs,(show x+1<=lo+m by omega),(show lo+m+rest'.length=a₀.size by omega)⟩))))
 ·rintro c st' ⟨lo,rest,rfl,hR,hxl,hlr⟩
  rw [hsz] at hxl
  obtain rfl:lo=a₀.size:=by omega
  obtain rfl:rest = []:=List.length_eq_zero_iff.mp (by omega)
  exact⟨rfl,hR⟩
 ·rintro c st' ⟨rfl,hR⟩
  dsimp only
  have last:∀ st2,RI a₀ a₀.size [] st2->(pendingOf st2).size<=1->Q () st2:=fun st2 hR2 hp2=>by
   obtain⟨rs,eL,el,hr⟩:=hR2.runs
   refine h st2 hR2.perm hR2.failed ?_
   have hlen:=hr.len
   unfold d7 at hlen
   rw [List.length_map,Array.length_toList] at hlen
   rw [List.append_nil] at eL
   have hs:bp (arrOf st2).toList:=by
    rw [eL]
    match rs,hlen,hr with
    | [],_,_=>exact List.Pairwise.nil
    | [r],_,hr =>
     rw [List.flatten_cons,List.flatten_nil,List.append_nil]
     revert hr
     cases d7 (pendingOf st2) with
     | nil=>exact fun z=>z.elim
     | cons p l=>exact fun z=>z.2.2.2.1
    | _ :: _ :: _,hlen,_=>simp only [List.length_cons] at hlen;omega
   intro i j hij hj
   rw [<-hR2.perm.size_eq] at hj
   obtain⟨x,ex,_⟩:=bI (a:=arrOf st2) (i:=i) (by omega)
   obtain⟨y,ey,_⟩:=bI (a:=arrOf st2) (i:=j) hj
   rw [show K (arrOf st2) i=kn x by unfold K;rw [ex];rfl,show K (arrOf st2) j=kn y by unfold K;rw [ey];rfl]
   exact hs.get hij (by rw [Array.getElem?_toList];exact ex) (by rw [Array.getElem?_toList];exact ey)
  have cu:(pendingOf st').size<=a₀.size:=by
   obtain⟨rs,eL,el,hr⟩:=hR.runs
   have hlen:=hr.len
   unfold d7 at hlen
   rw [List.length_map,Array.length_toList] at hlen
   omega
  refine wpS_bind (wpS_mono (wpS_forRange (I:=fun x c st2=>c=(none,())/\RI a₀ a₀.size [] st2/\(pendingOf st2).size<=max 1 (a₀.size - x)) (Q:=fun c st2=>c=(none,())/\RI a₀ a₀.size [] st2/\(pendingOf st2).size<=1) ?_ ?_ ⟨rfl,hR,by omega⟩) ?_)
  ·rintro x c st2 _ _ ⟨rfl,hR2,hp2⟩
   refine wpS_bind (wpS_get ?_)
   by_cases h1:(pendingOf st2).size<=1
   ·rw [if_pos h1]
    exact wpS_pure ⟨rfl,hR2,h1⟩
   ·rw [if_neg h1]
    have hle:∀ (c:Prop) [Decidable c] (n:Nat),(if c then n - 1 else n)<=n:=fun c _ n=>by split <;> omega
    refine wpS_bind (hR2.merge h0 (Nat.lt_of_le_of_lt (Nat.succ_le_succ (hle _ _)) (show (pendingOf st2).size - 2+1 < (pendingOf st2).size by omega)) fun st3 hR3 hp3=>?_)
    rw [if_neg (by decide)]
    exact wpS_pure ⟨rfl,hR3,by omega⟩
  ·rintro c st2 ⟨hc,hR2,hp2⟩
   refine⟨hc,hR2,?_⟩
   rw [hsz] at hp2
   omega
  ·rintro c st2 ⟨rfl,hR2,hp2⟩
   exact wpS_pure (last st2 hR2 hp2)
end
end dn
namespace dn
open PySem PyProof.Rows
section
variable {prog:Program} {w:World} {A:Around} {E:Value->Shared->Prop} {s:Shared}
theorem fN {a:Addr} {vs:List Value} {ns:List Int} {n:Nat} {P:Fin->Shared->Prop} (ho:s.heap.get? a=some (seqObj "list" vs.toArray n)) (hI:IntsAre vs ns) (hn:vs.length<=10000)
  (h:∀ (out:Array Value) (ns':List Int),IntsAre out.toList ns'->ns'.Perm ns->ns'.Pairwise (· <= ·)->P (.done (.ret .none)) { s with heap:=sortedHeap s.heap a vs out }) :
  wpAny (model prog w) A (Builtin.«list.sort» ⟨[.ref a],[]⟩) P E s:=by
 by_cases h64:vs.length < 64
 ·exact list_sort_tree ho hI h64 h
 match vs,h64 with
 | [],h64=>exact absurd (show 0 < 64 by decide) h64
 | [_],h64=>exact absurd (show 1 < 64 by decide) h64
 | v₁ :: v₂ :: rest,h64 =>
  have la:a < s.heap.objs.size:=Heap.lt_size ho
  have big:¬ (v₁ :: v₂ :: rest).toArray.size < 2:=by simp
  rw [list_sort_plain]
  obtain⟨e1,ho1⟩:∃ e,(s.heap.update a (Obj.mapSeq fun _=>#[])).get? a=some (seqObj "list" #[] e):=⟨_,get?_update_seq ho (fun _=>#[])⟩
  refine wpAny_bind (listItems_at ho rfl (wpAny_bind (listUpdate_at ho rfl (wpAny_bind (seqEpoch_at ho1 rfl (wpAny_bind (wpAny_newTuple (wpAny_bind (wpAny_newList (wpAny_holding ?_))))))) (by show (v₁ :: v₂ :: rest).length<=sizeLine;rw [sizeLine_eq];omega))))
  have ho6:(((s.heap.update a (Obj.mapSeq fun _=>#[])).push (seqObj "tuple" (v₁ :: v₂ :: rest).toArray 0)).push (seqObj "list" #[] 0)).get? a=some (seqObj "list" #[] e1) :=
   (Heap.get?_push_ne _ _ _ (by rw [size_push',Heap.size_update];exact Nat.ne_of_lt (Nat.lt_succ_of_lt la))).trans ((Heap.get?_push_ne _ _ _ (by rw [Heap.size_update];exact Nat.ne_of_lt la)).trans ho1)
  show wpAny (model prog w) A _ P E { s with heap:=((s.heap.update a (Obj.mapSeq fun _=>#[])).push (seqObj "tuple" (v₁ :: v₂ :: rest).toArray 0)).push (seqObj "list" #[] 0) }
  dsimp only
  rw [if_neg big,if_neg big,keyKind_ints hI]
  refine wpAny_bind (wpAny_pure (wpAny_bind (wpAny_mono (lK (a₀:=pairsOf (v₁ :: v₂ :: rest)) (st:=SortSt.mk' oneType' ((v₁ :: v₂ :: rest).toArray.zip (v₁ :: v₂ :: rest).toArray) #[] 7 none)
   (Q:=fun _ st'=>(arrOf st').Perm (pairsOf (v₁ :: v₂ :: rest))/\failedOf st' = none/\SortedTo (arrOf st') (pairsOf (v₁ :: v₂ :: rest)).size) hI.intKeys (Array.Perm.refl _) rfl rfl rfl fun st' b1 b2 b3=>⟨b1,b2,b3⟩) ?_ fun _ _ e=>e)))
  rintro⟨⟨⟩,st'⟩ s' ⟨rfl,hp,hf,hs⟩
  obtain⟨ns',c1,c2,c3⟩:=sorted_out hI hp hs
  refine wpAny_bind (seqEpoch_at ho6 rfl (wpAny_bind (listUpdate_at ho6 rfl ?_ (Nat.zero_le _) ?_)))
  ·rw [hf]
   simp only [bne_self_eq_false,Bool.false_eq_true,if_false]
   exact wpAny_pure (h _ ns' c1 c2 c3)
  ·refine Nat.le_trans (Nat.le_of_eq ((Array.size_map ..).trans (hp.size_eq.trans (pairsOf_size _)))) ?_
   rw [sizeLine_eq]
   omega
end
end dn
namespace L2
open PySem PySem.Spec PyProof.Rows
abbrev Key:=Sum Int Str
def dA:Key->Value->Bool
 | .inl k,v=>Value.isInt k v
 | .inr x,v=>Value.isStrOf x v
def uL (w:World):Key->Int
 | .inl k=>hashInt k
 | .inr x=>hashStr w x
theorem bh:∀ {k:Key} {v:Value},dA k v=true->(∃ i t,k=Sum.inl i/\v=Value.int i t)\/(∃ x t,k=Sum.inr x/\v=Value.str x t)
 | .inl i,v,h=>by
  obtain⟨t,e⟩:=Value.isInt_shape (k:=i) (v:=v) h
  exact .inl ⟨i,t,rfl,e⟩
 | .inr x,v,h=>by
  obtain⟨t,e⟩:=Value.isStrOf_shape (x:=x) (v:=v) h
  exact .inr ⟨x,t,rfl,e⟩
theorem n9 (i:Int) (t:Tok):dA (.inl i) (.int i t)=true:=by simp [dA,Value.isInt]
theorem og (x:Str) (t:Tok):dA (.inr x) (.str x t)=true:=by simp [dA,Value.isStrOf]
theorem sr (a b:Int):decide ((Sum.inl a:Key)=Sum.inl b)=(a == b):=by
 by_cases e:a=b
 ·subst e;simp
 ·have h:¬ (Sum.inl a:Key)=Sum.inl b:=fun q=>e (Sum.inl.inj q)
  rw [decide_eq_false h]
  exact (beq_eq_false_iff_ne.mpr e).symm
theorem sx (a b:Str):decide ((Sum.inr a:Key)=Sum.inr b)=decide (a=b):=by
 by_cases e:a=b
 ·subst e;simp
 ·have h:¬ (Sum.inr a:Key)=Sum.inr b:=fun q=>e (Sum.inr.inj q)
  rw [decide_eq_false h,decide_eq_false e]
theorem sy (a:Int) (b:Str):decide ((Sum.inl a:Key)=Sum.inr b)=false:=decide_eq_false (fun q=>nomatch q)
theorem sA (a:Str) (b:Int):decide ((Sum.inr a:Key)=Sum.inl b)=false:=decide_eq_false (fun q=>nomatch q)
def ai (prog:Program) (w:World):PySem.KeyKind prog w Key where
 is:=dA
 hash:=uL w
 inj:=fun v a b ha hb=>by
  rcases bh ha with ⟨i,t,rfl,rfl⟩ | ⟨x,t,rfl,rfl⟩
  ·rcases bh hb with ⟨j,u,rfl,e⟩ | ⟨y,u,rfl,e⟩
   ·injection e with e1 _;rw [e1]
   ·exact nomatch e
  ·rcases bh hb with ⟨j,u,rfl,e⟩ | ⟨y,u,rfl,e⟩
   ·exact nomatch e
   ·injection e with e1 _;rw [e1]
 byValue:=fun k v h=>by
  rcases bh h with ⟨i,t,rfl,rfl⟩ | ⟨x,t,rfl,rfl⟩ <;> rfl
 pyHash:=fun hv h=>by
  rcases bh hv with ⟨i,t,rfl,rfl⟩ | ⟨x,t,rfl,rfl⟩
  ·exact wpAny_pyHash_int h
  ·exact wpAny_pyHash_str h
 eqBool:=fun hu hv h=>by
  rcases bh hu with ⟨i,t,rfl,rfl⟩ | ⟨x,t,rfl,rfl⟩
  ·rcases bh hv with ⟨j,u,rfl,rfl⟩ | ⟨y,u,rfl,rfl⟩
   ·rw [sr] at h;exact wpAny_eqBool_int h
   ·rw [sy] at h;exact SeqAt.EqAt.int_str i t y u _ _ _ _ h
  ·rcases bh hv with ⟨j,u,rfl,rfl⟩ | ⟨y,u,rfl,rfl⟩
   ·rw [sA] at h;exact SeqAt.EqAt.str_int x t j u _ _ _ _ h
   ·rw [sx] at h;exact wpAny_eqBool_str h
 «strs»:=fun k x t v h=>by
  rcases bh h with ⟨i,u,rfl,e⟩ | ⟨y,u,rfl,e⟩
  ·exact nomatch e
  ·injection e with e1 _
   subst e1
   cases v <;> rfl
theorem gW (prog:Program) (w:World) (i:Int) (t:Tok):(ai prog w).is (.inl i) (.int i t)=true:=n9 i t
theorem gX (prog:Program) (w:World) (x:Str) (t:Tok):(ai prog w).is (.inr x) (.str x t)=true:=og x t
inductive V where
 | bo | bl (b:Bool) | int (i:Int) | str (x:Str) | fO (b:Array UInt8) | sC (b:UInt64) | ref (a:Addr) | ty (n:String)
 deriving DecidableEq
def RelV:V->Value->Prop
 | .bo,u=>u=Value.none
 | .bl b,u=>u=Value.bool b
 | .int i,u=>∃ t,u=Value.int i t
 | .str x,u=>∃ t,u=Value.str x t
 | .fO b,u=>∃ t,u=Value.bytes b t
 | .sC b,u=>∃ t,u=Value.float b t
 | .ref a,u=>u=Value.ref a
 | .ty n,u=>u=Value.type n
abbrev Vals:List V->List Value->Prop:=Paired RelV
theorem Vals.length {xs:List V} {us:List Value} (r:Vals xs us):xs.length=us.length:=Paired.length r
theorem Vals.get:∀ {xs:List V} {us:List Value} {i:Nat} {x:V},Vals xs us->xs[i]? = some x->∃ u,us[i]? = some u/\RelV x u
 | _,_,_,_,.nil,e=>by simp at e
 | _,_,0,_,.cons r _,e=>by simp at e;subst e;exact⟨_,rfl,r⟩
 | _,_,i+1,x,.cons _ t,e=>by
  obtain⟨u,h1,h2⟩:=Vals.get (i:=i) (x:=x) t (by simpa using e)
  exact⟨u,by simpa using h1,h2⟩
theorem Vals.set {x:V} {u:Value} (r:RelV x u):∀ {xs:List V} {us:List Value} (i:Nat),Vals xs us->Vals (xs.set i x) (us.set i u)
 | _,_,_,.nil=>.nil
 | _,_,0,.cons _ t=>.cons r t
 | _,_,i+1,.cons q t=>.cons q (Vals.set r i t)
theorem Vals.append:∀ {xs ys:List V} {us ws:List Value},Vals xs us->Vals ys ws->Vals (xs++ys) (us++ws)
 | _,_,_,_,.nil,s=>s
 | _,_,_,_,.cons r t,s=>.cons r (Vals.append t s)
theorem Vals.take:∀ {xs:List V} {us:List Value} (n:Nat),Vals xs us->Vals (xs.take n) (us.take n)
 | _,_,0,_=>.nil
 | _,_,_+1,.nil=>.nil
 | _,_,n+1,.cons r t=>.cons r (Vals.take n t)
theorem Vals.drop:∀ {xs:List V} {us:List Value} (n:Nat),Vals xs us->Vals (xs.drop n) (us.drop n)
 | _,_,0,r=>r
 | _,_,_+1,.nil=>.nil
 | _,_,n+1,.cons _ t=>Vals.drop n t
def j9:Option V->Option Value->Prop
 | some v,some u=>RelV v u
 | none,none=>True
 | _,_=>False
def KV {κ : Type}:List (κ × V)->List (κ × Value)->Prop:=Paired fun (p:κ × V) (q:κ × Value)=>p.1=q.1/\RelV p.2 q.2
def kV:Key->V
 | .inl i=>.int i
 | .inr x=>.str x
inductive HO where
 | lst (xs:List V)
 | tup (xs:List V)
 | dK (kvs:List (Key × V)) | dT (kvs:List (List Key × V))
 | set (S:Int->Bool) (n:Nat)
 | ins (C dx:Addr) (fs:List (Str × V))
 | own (x:Addr)
 | xd (fs:List (Str × V))
 | met (f x:Addr)
 | sD (lo hi:Int)
 | gY (o:Obj) (u:HO)
 | ka (ps:Array Value)
 | ext (φ : Heap->Prop)
abbrev Hp:=Addr->Option HO
def upd (H:Hp) (a:Addr) (o:HO):Hp:=fun b=>if b=a then some o else H b
theorem U {H:Hp} {a:Addr} {o:HO}:upd H a o a=some o:=by unfold upd;rw [if_pos rfl]
theorem ae {H:Hp} {a b:Addr} {o:HO} (h:b ≠ a):upd H a o b=H b:=by unfold upd;rw [if_neg h]
theorem rf {H:Hp} {a:Addr} {o u:HO}:upd (upd H a o) a u=upd H a u:=by
 funext b;unfold upd;split <;> rfl
theorem bU {H:Hp} {a b:Addr} {o u:HO} (h:H a=some o) (h':H b=some u) (d:o ≠ u):a ≠ b:=by
 intro e;subst e;rw [h] at h';exact d (Option.some.inj h')
theorem aF {H:Hp} {a b:Addr} {o:HO} (h:H a=some o) (h':H b=none):a ≠ b:=by
 intro e;subst e;rw [h] at h';cases h'
section
variable (P:Program) (w:World)
def aU (H:Hp) (h:Heap) (a:Addr):HO->Prop
 | .lst xs=>xs.length<=sizeLine/\∃ (its:List Value) (n:Nat),Vals xs its/\h.get? a=some { cls:=.type "list",data:=.seq its.toArray n }
 | .tup xs=>xs.length<=sizeLine/\∃ its:List Value,Vals xs its/\∃ o,h.get? a=some o/\o.cls=.type "tuple" /\ ∃ n,o.data=.seq its.toArray n/\o.dict=none
 | .dK kvs=>kvs.length<=sizeLine/\(a == sysModules)=false/\∃ vs,KV kvs vs/\h.DictOf (ai P w) a vs
 | .dT kvs=>kvs.length<=sizeLine/\(a == sysModules)=false/\∃ xs:List (List Key × Addr × Value),
   Paired (fun (p:List Key × V) (q:List Key × Addr × Value)=>p.1=q.1/\H q.2.1=some (.tup (p.1.map kV))/\RelV p.2 q.2.2) kvs xs /\
   ∃ o es ep,h.get? a=some o/\o.ExactDict/\o.data=.dict es ep/\es.toList=xs.map (entryOfKey (tupleKind (ai P w)))/\(xs.map (·.1)).Nodup
 | .set S n=>h.SetOf (intKind P w) a S n
 | .ins C dx fs=>H dx=some (.own a)/\fs.length<=1000/\dx ≠ a/\h.get? a=some (PySem.W.instObj C dx) /\
   ∃ mA,h.Ns1 dx mA/\(∀ f,j9 (fs.lookup f) (mA f))/\PySem.Within mA (fs.map (·.1))
 | .own _=>∃ o,h.get? a=some o
 | .xd fs=>∃ mA,h.Ns1 a mA/\∀ f,j9 (fs.lookup f) (mA f)
 | .sD lo hi=>∃ t u v,h.get? a=some { cls:=.type "range",data:=.fields #[.int lo t,.int hi u,.int 1 v] }
 | .gY o u=>h.get? a=some o/\aU H h a u
 | .ka ps=>h.get? a=some { cls:=.none,data:=.fields ps }
 | .met f x=>h.get? a=some (PySem.W.methodObj (.ref f) (.ref x))
 | .ext φ=>φ h/\(∃ o,h.get? a=some o)/\∀ h1 h2:Heap,φ h1->(∀ o,h1.get? a=some o->h2.get? a=some o)->φ h2
def bN (H:Hp) (h:Heap):Prop:=∀ a o,H a=some o->aU P w H h a o
end
section
variable {P:Program} {w:World} {H H':Hp} {h h':Heap} {a:Addr} {o:HO}
theorem aU.lt (x:aU P w H h a o):a < h.objs.size:=by
 cases o with
 | lst xs=>obtain⟨_,_,_,_,e⟩:=x;exact Heap.lt_size e
 | tup xs=>obtain⟨_,_,_,p⟩:=x;exact (let ⟨o,e,_⟩:=p;Heap.lt_size e)
 | dK kvs=>obtain⟨_,_,_,_,o,_,_,e,_⟩:=x;exact Heap.lt_size e
 | dT kvs=>obtain⟨_,_,_,_,o,_,_,e,_⟩:=x;exact Heap.lt_size e
 | set S n=>obtain⟨o,_,_,_,e,_⟩:=x;exact Heap.lt_size e
 | ins C dx fs=>obtain⟨_,_,_,e,_⟩:=x;exact Heap.lt_size e
 | own y=>obtain⟨_,e⟩:=x;exact Heap.lt_size e
 | xd fs=>obtain⟨_,⟨_,_,_,e,_⟩,_⟩:=x;exact Heap.lt_size e
 | sD lo hi=>obtain⟨_,_,_,e⟩:=x;exact Heap.lt_size e
 | gY ob u=>obtain⟨e,_⟩:=x;exact Heap.lt_size e
 | ka ps=>exact Heap.lt_size (show h.get? a=some _ from x)
 | met f y=>exact Heap.lt_size (show h.get? a=some _ from x)
 | ext φ=>obtain⟨_,⟨_,e⟩,_⟩:=x;exact Heap.lt_size e
theorem Paired.pK {α β : Type} {F G:α->β->Prop}:∀ {l₁ : List α} {l₂ : List β},Paired F l₁ l₂->(∀ a b,F a b->G a b)->Paired G l₁ l₂
 | _,_,.nil,_=>.nil
 | _,_,.cons r t,f=>.cons (f _ _ r) (Paired.pK t f)
theorem aU.jc (x:aU P w H h a o) (k:∀ b u,(b=a\/H b=some (.own a))->h.get? b=some u->h'.get? b=some u)
  (ho:∀ b,H b=some (.own a)->H' b=some (.own a)) (ht:∀ b xs,H b=some (.tup xs)->H' b=some (.tup xs)):aU P w H' h' a o:=by
 induction o with
 | lst xs=>obtain⟨z,its,n,r,e⟩:=x;exact⟨z,its,n,r,k _ _ (.inl rfl) e⟩
 | tup xs=>obtain⟨z,its,r,ob,e,c⟩:=x;exact⟨z,its,r,ob,k _ _ (.inl rfl) e,c⟩
 | dK kvs=>obtain⟨z,y,vs,r,ob,es,ep,e,c⟩:=x;exact⟨z,y,vs,r,ob,es,ep,k _ _ (.inl rfl) e,c⟩
 | dT kvs =>
  obtain⟨z,y,xs,r,ob,es,ep,e,c⟩:=x
  exact⟨z,y,xs,Paired.pK r fun p q z=>⟨z.1,ht _ _ z.2.1,z.2.2⟩,ob,es,ep,k _ _ (.inl rfl) e,c⟩
 | set S n=>obtain⟨ob,es,ep,t,e,c⟩:=x;exact⟨ob,es,ep,t,k _ _ (.inl rfl) e,c⟩
 | ins C dx fs =>
  obtain⟨d,z,ne,e,mA,⟨od,es,ep,e2,c⟩,r⟩:=x
  exact⟨ho _ d,z,ne,k _ _ (.inl rfl) e,mA,⟨od,es,ep,k _ _ (.inr d) e2,c⟩,r⟩
 | own y=>obtain⟨ob,e⟩:=x;exact⟨ob,k _ _ (.inl rfl) e⟩
 | xd fs=>obtain⟨mA,⟨od,es,ep,e,c⟩,r⟩:=x;exact⟨mA,⟨od,es,ep,k _ _ (.inl rfl) e,c⟩,r⟩
 | sD lo hi=>obtain⟨t,u,v,e⟩:=x;exact⟨t,u,v,k _ _ (.inl rfl) e⟩
 | gY ob u ih=>obtain⟨e,q⟩:=x;exact⟨k _ _ (.inl rfl) e,ih q⟩
 | ka ps =>
  have e:h.get? a=some { cls:=.none,data:=.fields ps }:=x
  show h'.get? a=some { cls:=.none,data:=.fields ps }
  exact k a _ (.inl rfl) e
 | met f y =>
  have e:h.get? a=some (PySem.W.methodObj (.ref f) (.ref y)):=x
  show h'.get? a=some (PySem.W.methodObj (.ref f) (.ref y))
  exact k a _ (.inl rfl) e
 | ext φ=>obtain⟨p,⟨o,e⟩,st⟩:=x;exact⟨st _ _ p fun o q=>k _ _ (.inl rfl) q,⟨o,k _ _ (.inl rfl) e⟩,st⟩
theorem bN.lt (x:bN P w H h) (e:H a=some o):a < h.objs.size:=(x a o e).lt
theorem bN.fresh (x:bN P w H h) (e:h.objs.size<=a):H a=none:=by
 cases q:H a with
 | none=>rfl
 | some u=>exact absurd (Nat.lt_of_lt_of_le (x.lt q) e) (Nat.lt_irrefl _)
theorem bN.kept (x:bN P w H h) (k:∀ b u,h.get? b=some u->h'.get? b=some u):bN P w H h':=fun a o e =>
 (x a o e).jc (fun b u _ q=>k b u q) (fun _ q=>q) fun _ _ q=>q
theorem bN.laid (x:bN P w H h) (k:∀ b u,h.get? b=some u->h'.get? b=some u) (hp:h.objs.size<=a) (new:aU P w (upd H a o) h' a o):bN P w (upd H a o) h':=fun b u e=>by
 have hn:=x.fresh hp
 by_cases hb:b=a
 ·subst hb;rw [U] at e;cases e;exact new
 ·rw [ae hb] at e
  exact (x b u e).jc (fun c v _ q=>k c v q) (fun c q=>by rw [ae (aF q hn)];exact q) fun c xs q=>by rw [ae (aF q hn)];exact q
end
def Rd (H:Hp) (a:Addr) (u:HO):Prop:=H a=some u\/∃ o,H a=some (.gY o u)
theorem Rd.ok {P:Program} {w:World} {H:Hp} {h:Heap} {a:Addr} {u:HO} (r:Rd H a u) (x:bN P w H h):aU P w H h a u:=by
 rcases r with r | ⟨o,r⟩
 ·exact x a u r
 ·obtain⟨_,q⟩:=x a _ r
  exact q
def oh:Option HO->Prop
 | some (.lst _)=>True
 | some (.dK _)=>True
 | some (.dT _)=>True
 | some (.set _ _)=>True
 | some (.ins _ _ _)=>True
 | some (.ext _)=>True
 | _=>False
section
variable {P:Program} {w:World} {H:Hp} {h h':Heap} {x e:Addr} {o':HO}
theorem bN.write (ok:bN P w H h) (mu:oh (H x)) (he:e=x\/H e=some (.own x)) (k:∀ b u,b ≠ e->h.get? b=some u->h'.get? b=some u) (heo:∃ u,h'.get? e=some u)
  (new:aU P w (upd H x o') h' x o'):bN P w (upd H x o') h':=fun b u q=>by
 have nown:∀ c y,H c=some (.own y)->c ≠ x:=fun c y r z=>by subst z;rw [r] at mu;exact mu
 have ntup:∀ c xs,H c=some (.tup xs)->c ≠ x:=fun c xs r z=>by subst z;rw [r] at mu;exact mu
 by_cases hb:b=x
 ·subst hb;rw [U] at q;cases q;exact new
 ·rw [ae hb] at q
  by_cases hbe:b=e
  ·have q':H b=some (.own x):=by
    rcases he with z | z
    ·exact absurd (hbe.trans z) hb
    ·rw [hbe];exact z
   rw [q] at q';cases q'
   obtain⟨v,hv⟩:=heo
   exact⟨v,by rw [hbe];exact hv⟩
  ·refine (ok b u q).jc (fun c v hc r=>k c v ?_ r) (fun c r=>by rw [ae (nown c b r)];exact r) fun c xs r=>by rw [ae (ntup c xs r)];exact r
   rcases hc with rfl | hc
   ·exact hbe
   ·rintro rfl
    rcases he with z | z
    ·exact nown c b hc z
    ·rw [hc] at z;cases z;exact hb rfl
end
structure Un (fs ex:List Addr) (H H':Hp) (h h':Heap):Prop where
 keep:∀ b o,h.get? b=some o->H b=none->b ∉ fs->b ∉ ex->h'.get? b=some o
 slot:∀ b o,h.get? b=some o->H b=none->b ∈ fs->b ∉ ex->∃ sl,h'.get? b=some { o with slots:=sl }
 free:∀ b o,h.get? b=some o->H b=none->b ∉ ex->H' b=none
 there:∀ b o,h.get? b=some o->b ∉ ex->∃ o',h'.get? b=some o'
 bR:∀ b xs,H b=some (.tup xs)->H' b=some (.tup xs)
 fg:∀ b o u,H b=some (.gY o u)->H' b=some (.gY o u)
 fP:∀ b ps,H b=some (.ka ps)->∃ more,H' b=some (.ka (ps++more))
section
variable {fs fs' ex ex':List Addr} {H H1 H2:Hp} {h h1 h2 h':Heap} {a x e:Addr} {o:HO}
theorem Un.any (u:Un fs ex H H1 h h1) {b:Addr} {ob:Obj} (q:h.get? b=some ob) (n:H b=none) (hx:b ∉ ex):∃ sl,h1.get? b=some { ob with slots:=sl }:=by
 by_cases hb:b ∈ fs
 ·exact u.slot b ob q n hb hx
 ·exact⟨ob.slots,u.keep b ob q n hb hx⟩
theorem Un.kept (k:∀ b u,h.get? b=some u->h'.get? b=some u):Un fs ex H H h h' :=
 ⟨fun b ob q _ _ _=>k b ob q,fun b ob q _ _ _=>⟨ob.slots,k b ob q⟩,fun _ _ _ n _=>n,fun b ob q _=>⟨ob,k b ob q⟩,fun _ _ q=>q,fun _ _ _ q=>q,fun _ ps q=>⟨#[],by rw [q];simp⟩⟩
theorem Un.refl:Un fs ex H H h h:=Un.kept fun _ _ q=>q
theorem Un.laid (k:∀ b u,h.get? b=some u->h'.get? b=some u) (hp:h.objs.size<=a) (hn:H a=none):Un fs ex H (upd H a o) h h' where
 keep:=fun b u q _ _ _=>k b u q
 slot:=fun b u q _ _ _=>⟨u.slots,k b u q⟩
 free:=fun b u q n _=>by rw [ae (Nat.ne_of_lt (Nat.lt_of_lt_of_le (Heap.lt_size q) hp))];exact n
 there:=fun b u q _=>⟨u,k b u q⟩
 bR:=fun b xs q=>by rw [ae (aF q hn)];exact q
 fg:=fun b u xs q=>by rw [ae (aF q hn)];exact q
 fP:=fun b ps q=>⟨#[],by rw [ae (aF q hn),q];simp⟩
theorem Un.write (mu:oh (H x)) (he:e=x\/H e=some (.own x)) (k:∀ b u,b ≠ e->h.get? b=some u->h'.get? b=some u) (heo:∃ u,h'.get? e=some u):Un fs ex H (upd H x o) h h':=by
  have hx:∀ b,H b=none->b ≠ x:=fun b n z=>by subst z;rw [n] at mu;exact mu
  have hb:∀ b,H b=none->b ≠ e:=fun b n z=>by
    subst z
    rcases he with r | r
    · exact hx b n r
    · rw [n] at r;cases r
  have hm:∀ b u,H b=some u->¬ oh (some u)->b ≠ x:=fun b u q nm z=>by subst z;rw [q] at mu;exact nm mu
  refine⟨fun b u q n _ _=>k b u (hb b n) q,fun b u q n _ _=>⟨u.slots,k b u (hb b n) q⟩,fun b u q n _=>by rw [ae (hx b n)];exact n,fun b u q _=>?_,
    fun b xs q=>by rw [ae (hm b _ q fun z=>z)];exact q,fun b u xs q=>by rw [ae (hm b _ q fun z=>z)];exact q,fun b ps q=>⟨#[],by rw [ae (hm b _ q fun z=>z),q];simp⟩⟩
  by_cases hbe:b=e
  · subst hbe;exact heo
  · exact⟨u,k b u hbe q⟩
end
def qK (h:Heap) (H:Hp):List Addr:=(List.range h.objs.size).filter fun a=>(H a).isSome
def fh (h:Heap) (H:Hp):Heap:=PySem.W.hideAll h (qK h H)
theorem oi (h:Heap) (H:Hp):(fh h H).objs.size=h.objs.size:=PySem.W.hideAll_size _ _
theorem pL {h:Heap} {H:Hp} {b:Addr} {o:Obj} (e:h.get? b=some o) (n:H b=none):(fh h H).get? b=some o :=
 PySem.W.hideAll_get _ e fun hm=>by
  have q:(H b).isSome=true:=(List.mem_filter.mp hm).2
  rw [n] at q;simp at q
theorem rg {h:Heap} {H:Hp} {b:Addr} {o:Obj} (e:(fh h H).get? b=some o):h.get? b=some o/\H b=none:=by
 have e':h.get? b=some o:=PySem.W.of_hideAll (qK h H) e
 refine⟨e',?_⟩
 cases q:H b with
 | none=>rfl
 | some x =>
  have hm:b ∈ qK h H:=List.mem_filter.mpr ⟨List.mem_range.mpr (Heap.lt_size e'),by simp [q]⟩
  have z:(fh h H).get? b=none:=PySem.W.hideAll_none (qK h H) hm
  rw [z] at e;cases e
def rh (g h:Heap) (L:Addr):List (Addr × Obj):=(List.range h.objs.size).filterMap fun a=>if a=L\/(g.get? a).isSome=true then none else (h.get? a).map fun o=>(a,o)
def rest (g h:Heap) (L d:Addr):List (Addr × Obj):=(rh g h L).filter fun p=>decide (p.1 ≠ d)
structure Mod (K:PySem.W.Frag) (mg:Str->Option Value) (base:Heap):Prop where
 sE:K.In base
 glob:base.Ns mainGlobals mg
 blt:∃ mb,base.Ns builtinsNs mb/\∀ x:Str,x ≠ "__name__" -> mb x=bootBuiltins x
 nolimit:base.NoLimit
structure Cx where
 prog:Program
 w:World
 K:PySem.W.Frag
 mg:Str->Option Value
 base:Heap
 A:Around
 N:List Str
 bO:Shared
 kb:Hp
 env:Env
 outer:List Env
 stack:List Env
 ex:List Addr
 fn:Str->Bool
 calm:Bool
 pn:List (Addr × Obj)
 xe:Value->Shared->Prop
def fQ (l:List Env):List Addr:=l.filterMap (·.frame)
abbrev Cx.fs (X:Cx):List Addr:=fQ X.outer
def sF (sc:Scope) (x:Str):Prop:=sc.names.lookup x=some .local\/sc.names.lookup x=some .cell\/sc.names.lookup x=some .free
def Loc (sc:Scope) (x:Str):Prop:=sc.names.lookup x=some .local\/sc.names.lookup x=some .cell
def Look (env:Env) (h:Heap) (m:Str->Option Value) (x:Str) (u:Value):Prop :=
 (env.kindOf x=some .local/\m x=some u)\/((env.kindOf x=some .cell\/env.kindOf x=some .free)/\∃ c,env.cells.lookup x=some c/\h.IsCell c (some u))
structure Cx.Ok (X:Cx):Prop where
 mod:Mod X.K X.mg X.base
 kind:X.env.scope.kind=.function
 glob:X.env.globals=mainGlobals
 blt:X.env.builtins=builtinsNs
 above:X.bO.heap.objs.size<=X.env.locals
 inj:∀ x y c,X.env.cells.lookup x=some c->X.env.cells.lookup y=some c->x=y
 has:∀ x,(X.env.kindOf x=some .cell\/X.env.kindOf x=some .free)->∃ c,X.env.cells.lookup x=some c
 om:∀ x c,X.fn x=true->X.env.cells.lookup x=some c->X.bO.heap.objs.size<=c
 hd:X.calm=true->X.A.handled=none
 frames:X.A.frames=some X.stack
 qL:X.stack=X.outer\/(X.stack=X.env :: X.outer/\X.env.frame=some X.env.locals)
 uH:∀ b ∈ X.ex,b ≠ X.env.locals/\∀ x c,X.env.cells.lookup x=some c->c ≠ b
 bs:∀ b o,X.base.get? b=some o->X.bO.heap.get? b=some o/\X.kb b=none
 jC:X.base.objs.size<=X.bO.heap.objs.size
 kc:∀ b o,X.base.get? b=some o->b ∉ X.ex
 m7:∀ b ∈ X.ex,b ∉ X.fs
 d8:X.bO.heap.FunFrames X.base X.outer
 me:∀ b ∈ X.fs,X.kb b=none
structure Inv (X:Cx) (pins:List (Addr × Obj)) (σ : List (Option V)) (H:Hp) (s:Shared):Prop where
 ok:X.Ok
 os:s.os=X.bO.os
 bare:AllBare s.gens
 base:Un X.fs X.ex X.kb H X.bO.heap s.heap
 loc:∃ m,s.heap.Ns X.env.locals m/\∀ (i:Nat) (x:Str) (v:V),X.N[i]? = some x->σ[i]? = some (some v)->sF X.env.scope x->∃ u,RelV v u/\Look X.env s.heap m x u
 cell:∀ x c,X.env.cells.lookup x=some c->∃ v,s.heap.IsCell c v
 free:H X.env.locals=none
 cI:∀ x c,X.env.cells.lookup x=some c->H c=none
 pin:∀ p ∈ X.pn++pins,s.heap.get? p.1=some p.2/\H p.1=none/\p.1 ≠ X.env.locals/\p.1 ∉ X.fs/\∀ v,p.2.data ≠ .cell v
 av:bN X.prog X.w H s.heap
 len:σ.length=X.N.length
section
variable {X:Cx} {pins:List (Addr × Obj)} {σ : List (Option V)} {H H':Hp} {s:Shared} {h':Heap}
theorem Cx.Ok.uM (ok:X.Ok) {b:Addr} {o:Obj} (e:X.base.get? b=some o):b ∉ X.fs:=fun hb=>by
 have:=(ok.d8.mem hb).1
 rw [e] at this;cases this
theorem Inv.bs (I:Inv X pins σ H s):∀ b o,X.base.get? b=some o->s.heap.get? b=some o/\H b=none:=fun b o e =>
 ⟨I.base.keep b o (I.ok.bs b o e).1 (I.ok.bs b o e).2 (I.ok.uM e) (I.ok.kc b o e),I.base.free b o (I.ok.bs b o e).1 (I.ok.bs b o e).2 (I.ok.kc b o e)⟩
theorem Inv.bk (I:Inv X pins σ H s):∀ b o,X.base.get? b=some o->s.heap.get? b=some o:=fun b o e=>(I.bs b o e).1
theorem Inv.mod (I:Inv X pins σ H s):Mod X.K X.mg X.base:=I.ok.mod
theorem Inv.jD (I:Inv X pins σ H s):X.K.In s.heap:=I.ok.mod.sE.keeps I.bk
theorem Inv.lt (I:Inv X pins σ H s):X.env.locals < s.heap.objs.size:=let ⟨_,hn,_⟩:=I.loc;hn.lt
theorem Inv.sz (I:Inv X pins σ H s):X.bO.heap.objs.size<=s.heap.objs.size:=Nat.le_trans I.ok.above (Nat.le_of_lt I.lt)
theorem Inv.uN (I:Inv X pins σ H s) {a:Addr} (h:s.heap.objs.size<=a):a ∉ X.fs:=fun hb=>by
 obtain⟨_,o,ho,_⟩:=I.ok.d8.mem hb
 exact absurd (Nat.lt_of_lt_of_le (Heap.lt_size ho) (Nat.le_trans I.sz h)) (Nat.lt_irrefl _)
theorem Inv.kd (I:Inv X pins σ H s):∀ x c,X.env.cells.lookup x=some c->c ≠ X.env.locals:=fun x c e z=>by
 obtain⟨v,o,ho,hd⟩:=I.cell x c e
 obtain⟨m,⟨o',es,ep,ho',hd',_⟩,_⟩:=I.loc
 rw [z,ho'] at ho;cases ho;rw [hd'] at hd;cases hd
theorem Inv.d8 (I:Inv X pins σ H s):s.heap.FunFrames X.base X.outer:=by
 have all:∀ (l:List Env),(∀ b ∈ fQ l,b ∈ X.fs)->X.bO.heap.FunFrames X.base l->s.heap.FunFrames X.base l:=by
  intro l
  induction l with
  | nil=>intro _ _;trivial
  | cons env r ih =>
   intro hs hl
   obtain⟨hk,⟨L,o,hf,hn,ho,hd⟩,hr⟩:=hl
   have hL:L ∈ X.fs:=hs L (by unfold fQ;rw [List.filterMap_cons,hf];exact List.mem_cons_self)
   obtain⟨sl,e⟩:=I.base.slot L o ho (I.ok.me L hL) hL fun z=>I.ok.m7 L z hL
   exact⟨hk,⟨L,_,hf,hn,e,hd⟩,ih (fun b hb=>hs b (by unfold fQ;rw [List.filterMap_cons,hf];exact List.mem_cons_of_mem _ hb)) hr⟩
 exact all X.outer (fun _ hb=>hb) I.ok.d8
theorem Inv.stack (I:Inv X pins σ H s):s.heap.FunFrames X.base X.stack:=by
 rcases I.ok.qL with e | ⟨e,hf⟩
 ·rw [e];exact I.d8
 ·rw [e]
  obtain⟨m,hn,_⟩:=I.loc
  refine .cons (by rw [I.ok.kind];decide) hf hn ?_ I.d8
  exact Heap.get?_none_of_le (Nat.le_trans I.ok.jC I.ok.above)
theorem Inv.iK (I:Inv X pins σ H s):∀ b ∈ fQ X.stack,b ∈ X.env.locals :: X.fs:=fun b hb=>by
 rcases I.ok.qL with e | ⟨e,hf⟩
 ·rw [e] at hb;exact List.mem_cons_of_mem _ hb
 ·rw [e] at hb
  unfold fQ at hb
  rw [List.filterMap_cons,hf] at hb
  exact hb
theorem Inv.mf (I:Inv X pins σ H s):∀ b ∈ fQ X.stack,H b=none:=fun b hb=>by
 rcases List.mem_cons.mp (I.iK b hb) with e | hb
 ·rw [e];exact I.free
 ·obtain⟨_,o,ho,_⟩:=I.ok.d8.mem hb
  exact I.base.free b o ho (I.ok.me b hb) fun z=>I.ok.m7 b z hb
theorem Inv.step {g':Array GenState} {t':Nat} {d':Drawn} {ch:List Addr} (I:Inv X pins σ H s)
  (hch:∀ b ∈ ch,(b ∈ X.ex\/X.bO.heap.objs.size<=b)/\b ≠ X.env.locals/\(∀ x c,X.env.cells.lookup x=some c->c ≠ b)/\∀ p ∈ X.pn++pins,p.1 ≠ b)
  (keep:∀ b o,b ≠ X.env.locals->b ∉ X.fs->b ∉ ch->s.heap.get? b=some o->H b=none->h'.get? b=some o)
  (slot:∀ b o,b ≠ X.env.locals->b ∈ X.fs->b ∉ ch->s.heap.get? b=some o->H b=none->∃ sl,h'.get? b=some { o with slots:=sl }) (free:∀ b o,b ∉ ch->s.heap.get? b=some o->H b=none->H' b=none)
  (there:∀ b o,b ∉ ch->s.heap.get? b=some o->∃ o',h'.get? b=some o')
  (bR:∀ b xs,H b=some (.tup xs)->H' b=some (.tup xs)) (fg:∀ b o u,H b=some (.gY o u)->H' b=some (.gY o u)) (fP:∀ b ps,H b=some (.ka ps)->∃ more,H' b=some (.ka (ps++more)))
  (ns:∀ m,s.heap.Ns X.env.locals m->h'.Ns X.env.locals m) (av:bN X.prog X.w H' h') (hg:AllBare g') :
  Inv X pins σ H' { s with heap:=h',gens:=g',drawn:=d',toks:=t' }:=by
 have neL:∀ b o,X.bO.heap.get? b=some o->b ≠ X.env.locals:=fun b o e=>Nat.ne_of_lt (Nat.lt_of_lt_of_le (Heap.lt_size e) I.ok.above)
 have neC:∀ b o,X.bO.heap.get? b=some o->b ∉ X.ex->b ∉ ch:=fun b o e hx hb=>by
  rcases (hch b hb).1 with z | z
  ·exact hx z
  ·exact absurd (Nat.lt_of_lt_of_le (Heap.lt_size e) z) (Nat.lt_irrefl _)
 have cellK:∀ x c,X.env.cells.lookup x=some c->∀ v,s.heap.IsCell c v->h'.IsCell c v:=fun x c e v ⟨o,ho,hd⟩=>by
  have nch:c ∉ ch:=fun z=>(hch c z).2.2.1 x c e rfl
  by_cases hc:c ∈ X.fs
  ·obtain⟨sl,q⟩:=slot c o (I.kd x c e) hc nch ho (I.cI x c e)
   exact⟨_,q,hd⟩
  ·exact⟨o,keep c o (I.kd x c e) hc nch ho (I.cI x c e),hd⟩
 refine⟨I.ok,I.os,hg,⟨fun b o e n hb hx=>?_,fun b o e n hb hx=>?_,fun b o e n hx=>?_,fun b o e hx=>?_,fun b xs e=>bR b xs (I.base.bR b xs e),fun b o xs e=>fg b o xs (I.base.fg b o xs e),fun b ps e=>?_⟩,?_,fun x c e=>?_,?_,fun x c e=>?_,fun p hp=>?_,av,I.len⟩
 ·exact keep b o (neL b o e) hb (neC b o e hx) (I.base.keep b o e n hb hx) (I.base.free b o e n hx)
 ·obtain⟨sl,e1⟩:=I.base.slot b o e n hb hx
  obtain⟨sl',e2⟩:=slot b _ (neL b o e) hb (neC b o e hx) e1 (I.base.free b o e n hx)
  exact⟨sl',e2⟩
 ·obtain⟨o',e1⟩:=I.base.there b o e hx
  exact free b o' (neC b o e hx) e1 (I.base.free b o e n hx)
 ·obtain⟨o',e1⟩:=I.base.there b o e hx
  exact there b o' (neC b o e hx) e1
 ·obtain⟨m1,e1⟩:=I.base.fP b ps e
  obtain⟨m2,e2⟩:=fP b _ e1
  exact⟨m1++m2,by rw [e2,Array.append_assoc]⟩
 ·obtain⟨m,hn,hl⟩:=I.loc
  refine⟨m,ns m hn,fun i x v e1 e2 e3=>?_⟩
  obtain⟨u,r,l⟩:=hl i x v e1 e2 e3
  refine⟨u,r,?_⟩
  rcases l with l | ⟨k,c,e,z⟩
  ·exact .inl l
  ·exact .inr ⟨k,c,e,cellK x c e _ z⟩
 ·obtain⟨v,z⟩:=I.cell x c e
  exact⟨v,cellK x c e v z⟩
 ·obtain⟨m,⟨o,_,_,ho,_⟩,_⟩:=I.loc
  exact free _ o (fun z=>(hch _ z).2.1 rfl) ho I.free
 ·obtain⟨v,o,ho,hd⟩:=I.cell x c e
  exact free c o (fun z=>(hch c z).2.2.1 x c e rfl) ho (I.cI x c e)
 ·obtain⟨e,n,ne,nf,d⟩:=I.pin p hp
  have nch:p.1 ∉ ch:=fun z=>(hch p.1 z).2.2.2 p hp rfl
  exact⟨keep p.1 p.2 ne nf nch e n,free p.1 p.2 nch e n,ne,nf,d⟩
theorem Inv.un {t':Nat} (I:Inv X pins σ H s) (u:Un X.fs [] H H' s.heap h') (av:bN X.prog X.w H' h'):Inv X pins σ H' { s with heap:=h',toks:=t' }:=by
  obtain⟨m,⟨o,es,ep,ho,r⟩,_⟩:=id I.loc
  obtain⟨sl,hL⟩:=u.any ho I.free (by simp)
  exact I.step (g':=s.gens) (d':=s.drawn) (ch:=[]) (fun _ z=>nomatch z) (fun b o _ hb _ e n=>u.keep b o e n hb (by simp)) (fun b o _ hb _ e n=>u.slot b o e n hb (by simp)) (fun b o _ e n=>u.free b o e n (by simp)) (fun b o _ e=>u.there b o e (by simp)) u.bR u.fg u.fP (fun m' hm=>by
    obtain⟨o',es',ep',ho',r'⟩:=hm
    rw [ho] at ho';cases ho'
    exact⟨_,es',ep',hL,r'⟩) av I.bare
theorem Inv.call {g':Array GenState} {t':Nat} {d':Drawn} {ch:List Addr} (I:Inv X pins σ H s) (u:Un (fQ X.stack) ch H H' s.heap h') (av:bN X.prog X.w H' h') (hg:AllBare g')
  (hch:∀ b ∈ ch,(b ∈ X.ex\/X.bO.heap.objs.size<=b)/\b ≠ X.env.locals/\(∀ x c,X.env.cells.lookup x=some c->c ≠ b)/\∀ p ∈ X.pn++pins,p.1 ≠ b) :
  Inv X pins σ H' { s with heap:=h',gens:=g',drawn:=d',toks:=t' }:=by
 obtain⟨m,⟨o,es,ep,ho,r⟩,_⟩:=id I.loc
 obtain⟨sl,hL⟩:=u.any ho I.free fun z=>(hch _ z).2.1 rfl
 exact I.step (ch:=ch) hch (fun b o hL hb hc e n=>u.keep b o e n (fun z=>(List.mem_cons.mp (I.iK b z)).elim hL hb) hc) (fun b o _ _ hc e n=>u.any e n hc) (fun b o hc e n=>u.free b o e n hc) (fun b o hc e=>u.there b o e hc) u.bR u.fg u.fP (fun m' hm=>by
  obtain⟨o',es',ep',ho',r'⟩:=hm
  rw [ho] at ho';cases ho'
  exact⟨_,es',ep',hL,r'⟩) av hg
theorem Inv.turned {t':Nat} {it:Addr} (I:Inv X pins σ H s) (k:∀ b o,b ≠ it->s.heap.get? b=some o->h'.get? b=some o) (hn:H it=none) (hL:it ≠ X.env.locals)
  (h1:it ∈ X.ex\/X.bO.heap.objs.size<=it) (h2:∀ x c,X.env.cells.lookup x=some c->c ≠ it) (h3:∀ p ∈ X.pn++pins,p.1 ≠ it):Inv X pins σ H { s with heap:=h',toks:=t' }:=by
 have nit:∀ b u,H b=some u->b ≠ it:=fun b u e z=>by rw [z,hn] at e;cases e
 refine I.step (g':=s.gens) (d':=s.drawn) (ch:=[it]) (fun b hb=>?_) (fun b o _ _ hc e _=>k b o (fun z=>hc (by simp [z])) e) (fun b o _ _ hc e _=>⟨o.slots,k b o (fun z=>hc (by simp [z])) e⟩) (fun _ _ _ _ n=>n)
  (fun b o hc e=>⟨o,k b o (fun z=>hc (by simp [z])) e⟩) (fun _ _ e=>e) (fun _ _ _ e=>e) (fun b ps e=>⟨#[],by rw [e];simp⟩) (fun m hm=>?_) (fun b u e=>?_) I.bare
 ·have e:b=it:=by simpa using hb
  subst e
  exact⟨h1,hL,h2,h3⟩
 ·obtain⟨o,es,ep,ho,r⟩:=hm
  exact⟨o,es,ep,k _ o (Ne.symm hL) ho,r⟩
 ·refine (I.av b u e).jc (fun c v hc q=>k c v ?_ q) (fun _ q=>q) fun _ _ q=>q
  rcases hc with z | z
  ·rw [z];exact nit b u e
  ·exact nit c _ z
theorem Inv.tok (I:Inv X pins σ H s) (t:Nat):Inv X pins σ H { s with toks:=t }:=I.un (h':=s.heap) (t':=t) Un.refl I.av
theorem Inv.kept {t':Nat} (I:Inv X pins σ H s) (k:∀ b u,s.heap.get? b=some u->h'.get? b=some u):Inv X pins σ H { s with heap:=h',toks:=t' }:=I.un (Un.kept k) (I.av.kept k)
theorem Inv.laid {a:Addr} {o:HO} {t':Nat} (I:Inv X pins σ H s) (k:∀ b u,s.heap.get? b=some u->h'.get? b=some u) (hp:s.heap.objs.size<=a) (new:aU X.prog X.w (upd H a o) h' a o) :
  Inv X pins σ (upd H a o) { s with heap:=h',toks:=t' }:=I.un (Un.laid k hp (I.av.fresh hp)) (I.av.laid k hp new)
theorem Inv.write {x e:Addr} {o:HO} {t':Nat} (I:Inv X pins σ H s) (mu:oh (H x)) (he:e=x\/H e=some (.own x)) (k:∀ b u,b ≠ e->s.heap.get? b=some u->h'.get? b=some u) (heo:∃ u,h'.get? e=some u)
  (new:aU X.prog X.w (upd H x o) h' x o):Inv X pins σ (upd H x o) { s with heap:=h',toks:=t' }:=I.un (Un.write mu he k heo) (I.av.write mu he k heo new)
theorem Inv.mh {pins':List (Addr × Obj)} (I:Inv X pins σ H s) (h:∀ p ∈ pins',s.heap.get? p.1=some p.2/\H p.1=none/\p.1 ≠ X.env.locals/\p.1 ∉ X.fs/\∀ v,p.2.data ≠ .cell v):Inv X pins' σ H s :=
 ⟨I.ok,I.os,I.bare,I.base,I.loc,I.cell,I.free,I.cI,fun p hp=>(List.mem_append.mp hp).elim (fun z=>I.pin p (List.mem_append_left _ z)) (h p),I.av,I.len⟩
theorem ke {N:List Str} (hN:N.Nodup) {i j:Nat} {x:Str} (a:N[i]? = some x) (b:N[j]? = some x):i=j:=by
 obtain⟨h1,e1⟩:=List.getElem?_eq_some_iff.mp a
 obtain⟨h2,e2⟩:=List.getElem?_eq_some_iff.mp b
 exact (List.getElem_inj hN).mp (e1.trans e2.symm)
theorem jE {M:Model} {A:Around} {E:Value->Shared->Prop} {i:Nat} {x:Str} {v:V} {u:Value} {Q:Unit->Shared->Prop} (I:Inv X pins σ H s) (hN:X.N.Nodup) (hi:X.N[i]? = some x) (hx:Loc X.env.scope x) (r:RelV v u)
  (h:∀ s',Inv X pins (σ.set i (some v)) H s'->(∃ a,Heap.SameBut a s.heap s'.heap/\(a=X.env.locals\/X.env.cells.lookup x=some a))->Q () s') (hf:X.fn x=true\/X.env.scope.names.lookup x=some .local:=by first | exact .inl rfl | exact .inr rfl | assumption):wpAny M A (storeName X.env x u) Q E s:=by
 obtain⟨m,hn,hl⟩:=id I.loc
 have hcls:(X.env.scope.kind == .class || (X.env.scope.kind == .module && X.env.locals != X.env.globals))=false:=by rw [I.ok.kind];rfl
 have hiσ : i < σ.length:=by rw [I.len];exact (List.getElem?_eq_some_iff.mp hi).1
 have kd:=I.kd
 have tracked:∀ {a:Addr} {h':Heap},(∃ o,s.heap.get? a=some o/\H a=none)->Heap.SameBut a s.heap h'->bN X.prog X.w H h':=fun {a h'} ha hs b ob e=>by
  obtain⟨_,_,hfree⟩:=ha
  refine (I.av b ob e).jc (fun c w' hc q=>(hs.2 c ?_).trans q) (fun _ q=>q) fun _ _ q=>q
  rintro rfl
  rcases hc with rfl | hc
  ·rw [hfree] at e;cases e
  ·rw [hfree] at hc;cases hc
 rcases hx with hk | hk
 ·refine wpAny_storeName_local hk hn (fun h' hn' hs=>?_) hcls
  obtain⟨oL,_,_,hoL,_⟩:=id hn
  refine h _ ⟨I.ok,I.os,I.bare,⟨fun b o e n hb hx=>?_,fun b o e n hb hx=>?_,I.base.free,fun b o e hx=>?_,I.base.bR,I.base.fg,I.base.fP⟩,⟨_,hn',fun j y v' e1 e2 e3=>?_⟩,fun y c e=>?_,I.free,I.cI,fun p hp=>?_,tracked ⟨oL,hoL,I.free⟩ hs,by simpa using I.len⟩ ⟨_,hs,.inl rfl⟩
  ·exact (hs.2 b (Nat.ne_of_lt (Nat.lt_of_lt_of_le (Heap.lt_size e) I.ok.above))).trans (I.base.keep b o e n hb hx)
  ·obtain⟨sl,e1⟩:=I.base.slot b o e n hb hx
   exact⟨sl,(hs.2 b (Nat.ne_of_lt (Nat.lt_of_lt_of_le (Heap.lt_size e) I.ok.above))).trans e1⟩
  ·obtain⟨o',e1⟩:=I.base.there b o e hx
   exact⟨o',(hs.2 b (Nat.ne_of_lt (Nat.lt_of_lt_of_le (Heap.lt_size e) I.ok.above))).trans e1⟩
  ·by_cases hj:j=i
   ·subst hj
    rw [hi] at e1;cases e1
    rw [List.getElem?_set_self hiσ] at e2
    cases e2
    exact⟨u,r,.inl ⟨hk,by simp⟩⟩
   ·rw [List.getElem?_set_ne (Ne.symm hj)] at e2
    obtain⟨u',r',q⟩:=hl j y v' e1 e2 e3
    refine⟨u',r',?_⟩
    rcases q with ⟨k,e⟩ | ⟨k,c,e,z⟩
    ·refine .inl ⟨k,?_⟩
     have:y ≠ x:=fun e=>hj (ke hN e1 (e ▸ hi))
     simp [this,e]
    ·exact .inr ⟨k,c,e,z.sameBut hs (kd y c e)⟩
  ·obtain⟨w',z⟩:=I.cell y c e
   exact⟨w',z.sameBut hs (kd y c e)⟩
  ·obtain⟨e,n,ne,nf,d⟩:=I.pin p hp
   exact⟨(hs.2 p.1 ne).trans e,n,ne,nf,d⟩
 ·have hfn:X.fn x=true:=by
   rcases hf with z | z
   ·exact z
   ·rw [z] at hk;cases hk
  obtain⟨c,hc⟩:=I.ok.has x (.inl hk)
  obtain⟨w',z⟩:=I.cell x c hc
  refine wpAny_storeName_cell I.ok.kind hk hc z (fun h' hc' hs=>?_)
  obtain⟨oc,hoc,hocd⟩:=id z
  refine h { s with heap:=h' } ⟨I.ok,I.os,I.bare,⟨fun b o e n hb hx=>?_,fun b o e n hb hx=>?_,I.base.free,fun b o e hx=>?_,I.base.bR,I.base.fg,I.base.fP⟩,⟨m,hn.sameBut hs (Ne.symm (kd x c hc)),fun j y v' e1 e2 e3=>?_⟩,fun y c' e=>?_,I.free,I.cI,fun p hp=>?_,tracked ⟨oc,hoc,I.cI x c hc⟩ hs,by simpa using I.len⟩ ⟨c,hs,.inr hc⟩
  ·exact (hs.2 b (Nat.ne_of_lt (Nat.lt_of_lt_of_le (Heap.lt_size e) (I.ok.om x c hfn hc)))).trans (I.base.keep b o e n hb hx)
  ·obtain⟨sl,e1⟩:=I.base.slot b o e n hb hx
   exact⟨sl,(hs.2 b (Nat.ne_of_lt (Nat.lt_of_lt_of_le (Heap.lt_size e) (I.ok.om x c hfn hc)))).trans e1⟩
  ·obtain⟨o',e1⟩:=I.base.there b o e hx
   exact⟨o',(hs.2 b (Nat.ne_of_lt (Nat.lt_of_lt_of_le (Heap.lt_size e) (I.ok.om x c hfn hc)))).trans e1⟩
  ·by_cases hj:j=i
   ·subst hj
    rw [hi] at e1;cases e1
    rw [List.getElem?_set_self hiσ] at e2
    cases e2
    exact⟨u,r,.inr ⟨.inl hk,c,hc,hc'⟩⟩
   ·rw [List.getElem?_set_ne (Ne.symm hj)] at e2
    obtain⟨u',r',q⟩:=hl j y v' e1 e2 e3
    refine⟨u',r',?_⟩
    rcases q with q | ⟨k,c',e,z'⟩
    ·exact .inl q
    ·refine .inr ⟨k,c',e,z'.sameBut hs ?_⟩
     rintro rfl
     exact hj (ke hN e1 (I.ok.inj _ _ _ e hc ▸ hi))
  ·by_cases hcc:c' = c
   ·subst hcc;exact⟨_,hc'⟩
   ·obtain⟨w2,z2⟩:=I.cell y c' e
    exact⟨w2,z2.sameBut hs hcc⟩
  ·obtain⟨e,n,ne,nf,d⟩:=I.pin p hp
   refine⟨(hs.2 p.1 ?_).trans e,n,ne,nf,d⟩
   intro q
   rw [q,hoc] at e
   have q':oc=p.2:=Option.some.inj e
   exact d w' (by rw [<-q'];exact hocd)
theorem kf {M:Model} {A:Around} {E:Value->Shared->Prop} {i:Nat} {x:Str} {v:V} {u:Value} {Q:Unit->Shared->Prop} (I:Inv X pins σ H s) (hN:X.N.Nodup) (hi:X.N[i]? = some x) (hx:Loc X.env.scope x) (r:RelV v u)
  (h:∀ s',Inv X pins (σ.set i (some v)) H s'->Q () s') (hf:X.fn x=true\/X.env.scope.names.lookup x=some .local:=by first | exact .inl rfl | exact .inr rfl | assumption):wpAny M A (storeName X.env x u) Q E s :=
 jE I hN hi hx r (fun s' I' _=>h s' I') hf
theorem Inv.ud {s':Shared} {ch:List Addr} (I:Inv X pins σ H s) (ho:s'.os=s.os) (u:Un (fQ X.stack) ch H H' s.heap s'.heap) (av:bN X.prog X.w H' s'.heap) (hg:AllBare s'.gens)
  (hch:∀ b ∈ ch,(b ∈ X.ex\/X.bO.heap.objs.size<=b)/\b ≠ X.env.locals/\(∀ x c,X.env.cells.lookup x=some c->c ≠ b)/\∀ p ∈ X.pn++pins,p.1 ≠ b):Inv X pins σ H' s':=by
 obtain⟨h',g',d',t',o'⟩:=s'
 have e:o' = s.os:=ho
 subst e
 exact I.call (g':=g') (t':=t') (d':=d') u av hg hch
end
abbrev XK:=Value->Option Addr->Hp->Prop
abbrev St:=List (Option V)
abbrev VK:=V->Hp->Prop
abbrev TE:=St->Hp->VK->Prop
abbrev TT:=St->Hp->(Bool->Hp->Prop)->Prop
abbrev TA:=St->Hp->(List V->Hp->Prop)->Prop
structure Ends where
 nx:St->Hp->Prop
 rt:VK
 bk:St->Hp->Prop:=fun _ _=>False
 ct:St->Hp->Prop:=fun _ _=>False
abbrev TS:=Ends->St->Hp->Prop
def EP (X:Cx) (pins:List (Addr × Obj)) (σ : St) (Q:VK) (u:Value) (s':Shared):Prop:=∃ v H',Inv X pins σ H' s'/\RelV v u/\Q v H'
def TP (X:Cx) (pins:List (Addr × Obj)) (σ : St) (Q:Bool->Hp->Prop) (b:Bool) (s':Shared):Prop:=∃ H',Inv X pins σ H' s'/\Q b H'
def AP (X:Cx) (pins:List (Addr × Obj)) (σ : St) (Q:List V->Hp->Prop) (us:List Value) (s':Shared):Prop:=∃ vs H',Inv X pins σ H' s'/\Vals vs us/\Q vs H'
def SP (X:Cx) (pins:List (Addr × Obj)) (D:Ends) (f:Flow) (s':Shared):Prop :=
 match f with
 | .next=>∃ σ' H',Inv X pins σ' H' s'/\D.nx σ' H'
 | .brk=>∃ σ' H',Inv X pins σ' H' s'/\D.bk σ' H'
 | .cont=>∃ σ' H',Inv X pins σ' H' s'/\D.ct σ' H'
 | .ret u=>∃ v σ' H',Inv X pins σ' H' s'/\RelV v u/\D.rt v H'
def PE (X:Cx) (e:Expr) (t:TE):Prop :=
 ∀ (pins:List (Addr × Obj)) (s:Shared) (σ : St) (H:Hp) (Q:VK),Inv X pins σ H s->t σ H Q->wpAny (model X.prog X.w) X.A (eval e X.env) (EP X pins σ Q) X.xe s
def PT (X:Cx) (e:Expr) (t:TT):Prop :=
 ∀ (pins:List (Addr × Obj)) (s:Shared) (σ : St) (H:Hp) (Q:Bool->Hp->Prop),Inv X pins σ H s->t σ H Q->wpAny (model X.prog X.w) X.A (isTrue e X.env (eval e X.env)) (TP X pins σ Q) X.xe s
def PW (X:Cx) (e:Expr) (t:TT):Prop :=
 ∀ (whole:Sem Value) (pins:List (Addr × Obj)) (s:Shared) (σ : St) (H:Hp) (Q:Bool->Hp->Prop),Inv X pins σ H s->t σ H Q->wpAny (model X.prog X.w) X.A (isTrue e X.env whole) (TP X pins σ Q) X.xe s
theorem PW.pt {X:Cx} {e:Expr} {t:TT} (h:PW X e t):PT X e t:=h _
def PA (X:Cx) (es:List Expr) (t:TA):Prop :=
 ∀ (pos:Pos) (pins:List (Addr × Obj)) (s:Shared) (σ : St) (H:Hp) (Q:List V->Hp->Prop),Inv X pins σ H s->t σ H Q->wpAny (model X.prog X.w) X.A (spliced (backTo pos (starEach es X.env))) (AP X pins σ Q) X.xe s
def PS (X:Cx) (st:Stmt) (t:TS):Prop :=
 ∀ (pins:List (Addr × Obj)) (s:Shared) (σ : St) (H:Hp) (D:Ends),Inv X pins σ H s->t D σ H->wpAny (model X.prog X.w) X.A (exec st X.env) (SP X pins D) X.xe s
def eF (X:Cx) (st:List Stmt) (t:TS):Prop :=
 ∀ (pins:List (Addr × Obj)) (s:Shared) (σ : St) (H:Hp) (D:Ends),Inv X pins σ H s->t D σ H->wpAny (model X.prog X.w) X.A (execs st X.env) (SP X pins D) X.xe s
theorem aK {α : Type} {t:Sem α} {Q Q':α->Shared->Prop} {M:Model} {A:Around} {E:Value->Shared->Prop} {s:Shared} (h:wpAny M A t Q E s) (hQ:∀ a s,Q a s->Q' a s):wpAny M A t Q' E s:=wpAny_mono h hQ fun _ _ x=>x
section
variable {X:Cx}
inductive sG (i:Nat) (σ : St) (H:Hp) (Q:VK):Prop
 | mk (v:_) (_:σ[i]? = some (some v)) (_:Q v H)
def tC (v:V):TE:=fun _ H Q=>Q v H
theorem sH {i:Nat} {x:Str} {pos:Pos} (hN:X.N[i]? = some x) (hv:sF X.env.scope x) (hd:(x == ("__debug__" : Str))=false:=by decide) (hcd:(x == ("__classdict__" : Str))=false:=by decide):PE X (.Name x pos) (sG i):=by
 intro pins s σ H Q I h
 obtain⟨v,e,h⟩:=h
 obtain⟨m,hn,hl⟩:=I.loc
 obtain⟨u,r,l⟩:=hl i x v hN e hv
 have fin:EP X pins σ Q u s:=⟨v,H,I,r,h⟩
 rcases l with ⟨hk,hm⟩ | ⟨hk,c,hc,hcell⟩
 ·exact wpAny_Name (wpAny_loadName_local I.ok.kind hk hn hm fin) hd
 ·rcases hk with hk | hk
  ·exact wpAny_Name (wpAny_loadName_cell I.ok.kind hk hc hcell fin) hd
  ·exact wpAny_Name (wpAny_loadName_free I.ok.kind hk hc hcell fin hcd) hd
theorem aa {i j pos}:PE X (.Constant (.int i) j pos) (tC (.int i)):=fun _ _ _ H _ I h=>wpAny_Constant_int ⟨.int i,H,I.tok _,⟨_,rfl⟩,h⟩
theorem gG {b j pos}:PE X (.Constant (.bool b) j pos) (tC (.bl b)):=fun _ _ _ H _ I h=>Constant_bool ⟨.bl b,H,I,rfl,h⟩
theorem aZ {x j pos}:PE X (.Constant (.str x) j pos) (tC (.str x)):=fun _ _ _ H _ I h=>Calls.Constant_str ⟨.str x,H,I.tok _,⟨_,rfl⟩,h⟩
def Gl (X:Cx) (x:Str):Prop:=X.env.kindOf x=some .globalImplicit
theorem mi {E:Value->Shared->Prop} {pins:List (Addr × Obj)} {s:Shared} {σ : St} {H:Hp} {x:Str} {u:Value} {pos:Pos} {Q:Value->Shared->Prop} (I:Inv X pins σ H s) (hg:Gl X x) (hm:X.mg x=some u) (h:Q u s)
  (hd:(x == ("__debug__" : Str))=false:=by decide):wpAny (model X.prog X.w) X.A (eval (.Name x pos) X.env) Q E s :=
 Calls.Name_function_global I.ok.kind hg (Calls.loadGlobal_global (by rw [I.ok.glob];exact I.mod.glob.keeps I.bk) hm h) hd
theorem fR {E:Value->Shared->Prop} {pins:List (Addr × Obj)} {s:Shared} {σ : St} {H:Hp} {x:Str} {u:Value} {pos:Pos} {Q:Value->Shared->Prop} (I:Inv X pins σ H s) (hg:Gl X x) (hm:X.mg x=none) (hv:bootBuiltins x=some u) (h:Q u s)
  (hn:x ≠ "__name__" := by decide) (hd:(x == ("__debug__" : Str))=false:=by decide):wpAny (model X.prog X.w) X.A (eval (.Name x pos) X.env) Q E s:=by
 obtain⟨mb,h1,h2⟩:=I.mod.blt
 exact Calls.Name_function_global I.ok.kind hg (Calls.loadGlobal_builtin (by rw [I.ok.glob];exact I.mod.glob.keeps I.bk) hm (by rw [I.ok.blt];exact h1.keeps I.bk) ((h2 x hn).trans hv) h) hd
theorem rl {x:Str} {v:V} {u:Value} {pos:Pos} (hg:Gl X x) (hm:X.mg x=some u) (r:RelV v u) (hd:(x == ("__debug__" : Str))=false:=by decide):PE X (.Name x pos) (tC v) :=
 fun _ _ _ H _ I h=>mi I hg hm ⟨v,H,I,r,h⟩ hd
variable {a b:Expr} {ta tb:TE} {pos:Pos}
inductive ue (Q:(Bool->Hp->Prop)) (x:V) (H1:Hp):Prop
 | mk (c:_) (_:x=.bl c) (_:Q c H1)
def tB (t:TE):TT:=fun σ H Q=>t σ H fun x H1=>ue Q x H1
theorem sI {e:Expr} {t:TE} (h:PE X e t) (he:∀ whole,isTrue e X.env whole=(do let v <-whole;standAt e.pos;holding [v] (truthy v)):=by intro _;rfl):PT X e (tB t):=by
 intro pins s σ H Q I hw
 refine isTrue_plain (aK (h pins s σ H _ I hw) fun v s1 ⟨x,H1,I1,r1,q1⟩=>?_) (he _)
 obtain⟨d,rfl,q⟩:=q1
 cases r1
 exact wpAny_truthy_bool ⟨H1,I1,q⟩
variable {tA tB':TT} {rest:List Expr}
def vn (t u:TT):TT:=fun σ H Q=>t σ H fun c H1=>if c=true then Q true H1 else u σ H1 Q
theorem sJ (ha:PT X a tA):PW X (.BoolOp .Or [a] pos) tA:=by
 intro wh pins s σ H Q I h
 refine isTrue_or (aK (ha pins s σ H Q I h) fun c s1 e=>?_)
 cases c with
 | false=>exact isTrue_or_nil e
 | true=>exact e
theorem uf (ha:PT X a tA) (hb:PW X (.BoolOp .Or (b :: rest) pos) tB'):PW X (.BoolOp .Or (a :: b :: rest) pos) (vn tA tB'):=by
 intro wh pins s σ H Q I h
 refine isTrue_or (aK (ha pins s σ H _ I h) fun c s1 ⟨H1,I1,q1⟩=>?_)
 cases c with
 | true=>exact⟨H1,I1,q1⟩
 | false=>exact hb wh pins s1 σ H1 Q I1 q1
inductive pM (tb:TE) (σ : St) (Q:VK) (x:V) (H1:Hp):Prop
 | mk (c:_) (_:x=.bl c) (_:if c=true then tb σ H1 Q else Q (.bl false) H1)
def ug (ta tb:TE):TE:=fun σ H Q=>ta σ H fun x H1=>pM tb σ Q x H1
theorem sL {op} {t:TE} (h:PE X a t):PE X (.BoolOp op [a] pos) t:=fun pins s σ H Q I hw=>BoolOp_one (h pins s σ H Q I hw)
theorem sM (ha:PE X a ta) (hb:PE X (.BoolOp .And (b :: rest) pos) tb):PE X (.BoolOp .And (a :: b :: rest) pos) (ug ta tb):=by
 intro pins s σ H Q I h
 refine BoolOp_and (aK (ha pins s σ H _ I h) fun v s1 ⟨x,H1,I1,r1,q1⟩=>?_)
 obtain⟨c,rfl,q1⟩:=q1
 cases r1
 refine wpAny_truthy_bool ?_
 cases c with
 | true=>exact hb pins s1 σ H1 Q I1 q1
 | false=>exact⟨.bl false,H1,I1,rfl,q1⟩
end
def ax (K:PySem.W.Frag) (H:Hp) (a:Addr) (xs:List V):Prop :=
 Rd H a (.lst xs) \/
  ∃ (o:Obj) (its:Array Value) (n:Nat),K.lookup a=some o/\o.cls=.type "list" /\ o.dict=none/\o.data=.seq its n/\its.size<=sizeLine/\Vals xs its.toList
def ay (K:PySem.W.Frag) (H:Hp) (a:Addr) (xs:List V):Prop :=
 Rd H a (.tup xs) \/
  ∃ (o:Obj) (its:Array Value) (n:Nat),K.lookup a=some o/\o.cls=.type "tuple" /\ o.data=.seq its n/\its.size<=sizeLine/\Vals xs its.toList
def uO:Value->Option V
 | .none=>some .bo
 | .bool b=>some (.bl b)
 | .int i _=>some (.int i)
 | .str x _=>some (.str x)
 | .bytes b _=>some (.fO b)
 | .float b _=>some (.sC b)
 | .ref a=>some (.ref a)
 | .type n=>some (.ty n)
 | _=>none
theorem RelV.abs {x:V} {u:Value} (r:RelV x u):uO u=some x:=by
 cases x with
 | bo=>cases r;rfl
 | bl _=>cases r;rfl
 | int _=>obtain⟨t,rfl⟩:=r;rfl
 | str _=>obtain⟨t,rfl⟩:=r;rfl
 | fO _=>obtain⟨t,rfl⟩:=r;rfl
 | sC _=>obtain⟨t,rfl⟩:=r;rfl
 | ref _=>cases r;rfl
 | ty _=>cases r;rfl
theorem RelV.inj {x y:V} {u:Value} (r:RelV x u) (q:RelV y u):x=y:=Option.some.inj (r.abs.symm.trans q.abs)
theorem Vals.inj:∀ {xs ys:List V} {us:List Value},Vals xs us->Vals ys us->xs=ys
 | _,_,_,.nil,.nil=>rfl
 | _,_,_,.cons r t,.cons r' t'=>by rw [r.inj r',Vals.inj t t']
section
variable {X:Cx} {pins:List (Addr × Obj)} {σ : St} {H:Hp} {s:Shared} {a:Addr} {xs ys:List V}
theorem ax.of {K:PySem.W.Frag} (h:H a=some (.lst xs)):ax K H a xs:=.inl (.inl h)
theorem ay.of {K:PySem.W.Frag} (h:H a=some (.tup xs)):ay K H a xs:=.inl (.inl h)
theorem Inv.list (I:Inv X pins σ H s) (h:ax X.K H a xs):∃ its:List Value,Vals xs its/\PlainL s.heap a its.toArray/\xs.length<=sizeLine:=by
 rcases h with h | ⟨o,its,n,hk,hc,hd,hs,hz,r⟩
 ·obtain⟨z,its,n,r,e⟩:=h.ok I.av
  exact⟨its,r,⟨_,n,e,rfl,rfl,rfl⟩,z⟩
 ·refine⟨its.toList,r,⟨o,n,I.jD a o hk,hc,hd,by simpa using hs⟩,?_⟩
  have e:=r.length
  simp only [Array.length_toList] at e
  omega
theorem Inv.tuple (I:Inv X pins σ H s) (h:ay X.K H a xs):∃ its:List Value,Vals xs its/\IsTup s.heap a its.toArray/\xs.length<=sizeLine:=by
 rcases h with h | ⟨o,its,n,hk,hc,hs,hz,r⟩
 ·obtain⟨z,its,r,o,e,c,n,d,_⟩:=h.ok I.av
  exact⟨its,r,⟨o,e,c,n,d⟩,z⟩
 ·refine⟨its.toList,r,⟨o,I.jD a o hk,hc,n,by simpa using hs⟩,?_⟩
  have e:=r.length
  simp only [Array.length_toList] at e
  omega
theorem Inv.pN (I:Inv X pins σ H s) (h:ax X.K H a xs) (h':ax X.K H a ys):xs=ys:=by
 obtain⟨its,r,⟨o,n,e,_,_,d⟩,_⟩:=I.list h
 obtain⟨its',r',⟨o',n',e',_,_,d'⟩,_⟩:=I.list h'
 rw [e] at e';cases e'
 rw [d] at d'
 injection d' with d1 _
 have:its=its':=by simpa using congrArg Array.toList d1
 subst this
 exact r.inj r'
theorem Inv.fS (I:Inv X pins σ H s) (h:ay X.K H a xs) (h':ay X.K H a ys):xs=ys:=by
 obtain⟨its,r,⟨o,e,_,n,d⟩,_⟩:=I.tuple h
 obtain⟨its',r',⟨o',e',_,n',d'⟩,_⟩:=I.tuple h'
 rw [e] at e';cases e'
 rw [d] at d'
 injection d' with d1 _
 have:its=its':=by simpa using congrArg Array.toList d1
 subst this
 exact r.inj r'
end
abbrev Cx.eM (X:Cx) (E:Value->Shared->Prop):Cx:={ X with xe:=E }
abbrev Cx.mj (X:Cx):Cx:=X.eM fun _ _=>False
theorem Cx.Ok.eM {X:Cx} (ok:X.Ok) (E:Value->Shared->Prop):(X.eM E).Ok :=
 ⟨ok.mod,ok.kind,ok.glob,ok.blt,ok.above,ok.inj,ok.has,ok.om,ok.hd,ok.frames,ok.qL,ok.uH,ok.bs,ok.jC,ok.kc,ok.m7,ok.d8,ok.me⟩
theorem Cx.Ok.dC {X:Cx} {E:Value->Shared->Prop} (ok:(X.eM E).Ok):X.Ok :=
 ⟨ok.mod,ok.kind,ok.glob,ok.blt,ok.above,ok.inj,ok.has,ok.om,ok.hd,ok.frames,ok.qL,ok.uH,ok.bs,ok.jC,ok.kc,ok.m7,ok.d8,ok.me⟩
section
variable {X:Cx} {pins:List (Addr × Obj)} {σ : St} {H:Hp} {s:Shared} {E:Value->Shared->Prop}
theorem Inv.eM (I:Inv X pins σ H s) (E:Value->Shared->Prop):Inv (X.eM E) pins σ H s:=⟨I.ok.eM E,I.os,I.bare,I.base,I.loc,I.cell,I.free,I.cI,I.pin,I.av,I.len⟩
theorem Inv.dC (I:Inv (X.eM E) pins σ H s):Inv X pins σ H s:=⟨I.ok.dC,I.os,I.bare,I.base,I.loc,I.cell,I.free,I.cI,I.pin,I.av,I.len⟩
theorem SP.dC {D:Ends} {f:Flow} {s':Shared} (h:SP (X.eM E) pins D f s'):SP X pins D f s':=by
 cases f with
 | next=>obtain⟨σ',H',I,q⟩:=h;exact⟨σ',H',I.dC,q⟩
 | brk=>obtain⟨σ',H',I,q⟩:=h;exact⟨σ',H',I.dC,q⟩
 | cont=>obtain⟨σ',H',I,q⟩:=h;exact⟨σ',H',I.dC,q⟩
 | ret u=>obtain⟨v,σ',H',I,r,q⟩:=h;exact⟨v,σ',H',I.dC,r,q⟩
theorem eF.mj {st:List Stmt} {t:TS} (h:eF X.mj st t):eF X st t:=fun pins s σ H D I hw =>
 wpAny_mono (h pins s σ H D (I.eM _) hw) (fun _ _ q=>q.dC) fun _ _ z=>False.elim z
end
section
variable {X:Cx} {st:Stmt} {rest:List Stmt} {t u:TS} {e:Expr} {te:TE} {pos:Pos}
def uh:TS:=fun D σ H=>D.nx σ H
def uP (t u:TS):TS:=fun D σ H=>t { D with nx:=u D } σ H
theorem bb:eF X [] uh:=fun _ _ σ H _ I h=>wpAny_execs_nil ⟨σ,H,I,h⟩
theorem ab (h1:PS X st t) (h2:eF X rest u):eF X (st :: rest) (uP t u):=by
 intro pins s σ H D I h
 refine wpAny_execs_cons (aK (h1 pins s σ H { D with nx:=u D } I h) fun f s1 q=>?_)
 cases f with
 | next =>
  obtain⟨σ',H',I',q⟩:=q
  exact h2 pins s1 σ' H' D I' q
 | ret v=>exact q
 | brk=>exact q
 | cont=>exact q
theorem af (h1:PS X st t):eF X [st] t:=by
 intro pins s σ H D I h
 refine wpAny_execs_cons (aK (h1 pins s σ H D I h) fun f s1 q=>?_)
 cases f with
 | next=>exact wpAny_execs_nil q
 | ret v=>exact q
 | brk=>exact q
 | cont=>exact q
theorem Inv.quiet {pins:List (Addr × Obj)} {σ : St} {H:Hp} {s:Shared} (I:Inv X pins σ H s):interactive X.env=false:=by simp [interactive,I.ok.kind]
def ui (te:TE):TS:=fun D σ H=>te σ H fun _ H1=>D.nx σ H1
theorem cC (he:PE X e te) (hs:swapsWith e none pos.line X.env=pure false:=by rfl):PS X (.Expr e pos) (ui te):=by
 intro pins s σ H D I h
 exact wpAny_Expr_any (aK (he pins s σ H _ I h) fun v s1 ⟨x,H1,I1,r1,q1⟩=>⟨σ,H1,I1,q1⟩) I.quiet hs
def uQ (te:TE):TS:=fun D σ H=>te σ H D.rt
theorem aL (he:PE X e te):PS X (.Return (some e) pos) (uQ te):=by
 intro pins s σ H D I h
 exact wpAny_Return_some (aK (he pins s σ H _ I h) fun v s1 ⟨x,H1,I1,r1,q1⟩=>⟨x,σ,H1,I1,r1,q1⟩)
def uR (c:TT) (t u:TS):TS:=fun D σ H=>c σ H fun b H1=>if b=true then t D σ H1 else u D σ H1
theorem bL {c:Expr} {a b:List Stmt} {tc:TT} (hc:PT X c tc) (ha:eF X a t) (hb:eF X b u):PS X (.If c a b pos) (uR tc t u):=by
 intro pins s σ H D I h
 refine wpAny_If (aK (hc pins s σ H _ I h) fun d s1 ⟨H1,I1,q1⟩=>?_)
 cases d with
 | true=>exact ha pins s1 σ H1 D I1 q1
 | false=>exact hb pins s1 σ H1 D I1 q1
end
abbrev TG:=V->St->Hp->(St->Hp->Prop)->Prop
abbrev kg:=List V->St->Hp->(St->Hp->Prop)->Prop
def PG (X:Cx) (target:Expr) (t:TG):Prop :=
 ∀ (pins:List (Addr × Obj)) (s:Shared) (σ : St) (H:Hp) (v:V) (u:Value) (Q:St->Hp->Prop),Inv X pins σ H s->RelV v u->t v σ H Q ->
  wpAny (model X.prog X.w) X.A (assign target X.env u) (fun _ s'=>∃ σ' H',Inv X pins σ' H' s'/\Q σ' H') X.xe s
def qM (X:Cx) (ts:List Expr) (t:kg):Prop :=
 ∀ (pins:List (Addr × Obj)) (s:Shared) (σ : St) (H:Hp) (vs:List V) (us:List Value) (Q:St->Hp->Prop),Inv X pins σ H s->Vals vs us->t vs σ H Q ->
  wpAny (model X.prog X.w) X.A (assignInOrder ((assignEach ts X.env).map (·.2)) us) (fun _ s'=>∃ σ' H',Inv X pins σ' H' s'/\Q σ' H') X.xe s
abbrev pO:=V->V->V->Hp->(Hp->Prop)->Prop
def sN (X:Cx) (t:pO):Prop :=
 ∀ (pins:List (Addr × Obj)) (s:Shared) (σ : St) (H:Hp) (o i v:V) (ov iv u:Value) (Q:Hp->Prop),Inv X pins σ H s->RelV o ov->RelV i iv->RelV v u->t o i v H Q ->
  wpAny (model X.prog X.w) X.A (setItem ov iv u) (fun _ s'=>∃ H',Inv X pins σ H' s'/\Q H') X.xe s
section
variable {X:Cx} {pos:Pos}
def gH (i:Nat):TG:=fun v σ H Q=>Q (σ.set i (some v)) H
theorem rm {i:Nat} {x:Str} (hN:X.N.Nodup) (hi:X.N[i]? = some x) (hx:Loc X.env.scope x) (hf:X.fn x=true\/X.env.scope.names.lookup x=some .local:=by first | exact .inl rfl | exact .inr rfl | assumption):PG X (.Name x pos) (gH i):=by
 intro pins s σ H v u Q I r h
 exact wpAny_assign_Name (kf I hN hi hx r (fun s' I'=>⟨_,H,I',h⟩) hf)
def uS:kg:=fun vs σ H Q=>vs = []/\Q σ H
inductive uj (t:TG) (u:kg) (vs:List V) (σ : St) (H:Hp) (Q:(St->Hp->Prop)):Prop
 | mk (v r:_) (_:vs=v :: r) (_:t v σ H fun σ' H'=>u r σ' H' Q)
theorem gI:qM X [] uS:=by
 intro pins s σ H vs us Q I r h
 obtain⟨e,h⟩:=h
 subst e
 cases r
 exact assignInOrder_nil ⟨σ,H,I,h⟩
theorem cx {e:Expr} {es:List Expr} {t:TG} {u:kg} (h1:PG X e t) (h2:qM X es u)
  (hs:(assignEach (e :: es) X.env).map (·.2)=assign e X.env :: (assignEach es X.env).map (·.2):=by rfl):qM X (e :: es) (uj t u):=by
 intro pins s σ H vs us Q I r h
 obtain⟨v,vr,e1,h⟩:=h
 subst e1
 cases r with
 | cons r rr =>
  rw [hs]
  refine assignInOrder_cons (aK (h1 pins s σ H _ _ _ I r h) fun _ s1 ⟨σ1,H1,I1,q1⟩=>?_)
  exact h2 pins s1 σ1 H1 _ _ Q I1 rr q1
inductive pP (K:PySem.W.Frag) (n:Nat) (t:kg) (v:V) (σ : St) (H:Hp) (Q:(St->Hp->Prop)):Prop
 | mk (a xs:_) (_:v=.ref a) (_:ay K H a xs) (_:xs.length=n) (_:t xs σ H Q)
theorem iL {es:List Expr} {k:Nat} {t:kg} {n:Nat} (hc:X.calm=true) (h:qM X es t)
  (hn:(assignEach es X.env).length=n:=by rfl) (hst:(assignEach es X.env).findIdx? (·.1)=none:=by rfl):PG X (.Tuple es k pos) (pP X.K n t):=by
 intro pins s σ H v u Q I r hw
 obtain⟨a,xs,e1,hq,hl,hw⟩:=hw
 subst e1
 cases r
 obtain⟨its,rv,ht,hz⟩:=I.tuple hq
 refine assign_Tuple_tuple (I.ok.hd hc) ht (by simp [hn,<-hl,rv.length]) hst fun h' hx=>?_
 have I1:Inv X pins σ H { s with heap:=h' }:=I.kept (t':=s.toks) fun b o e=>hx b o (Nat.ne_of_lt (Heap.lt_size e)) e
 exact h pins _ σ H xs _ Q I1 (by simpa using rv) hw
def uT (to ti:TE) (t:pO):TG:=fun v σ H Q=>to σ H fun o H1=>ti σ H1 fun i H2=>t o i v H2 fun H3=>Q σ H3
theorem kh {o i:Expr} {to ti:TE} {t:pO} (ho:PE X o to) (hi:PE X i ti) (hs:sN X t)
  (ha:∀ v,assign (.Subscript o i pos) X.env v=(do
   let ov <-holding [v] (eval o X.env)
   let iv <-holding [v,ov] (eval i X.env)
   standAt pos
   holding [v,ov,iv] (setItem ov iv v)
   release [v,ov,iv] []):=by intro _;rfl):PG X (.Subscript o i pos) (uT to ti t):=by
 intro pins s σ H v u Q I r h
 rw [ha]
 refine wpAny_bind (wpAny_holding (aK (ho pins s σ H _ I h) fun ov s1 ⟨x,H1,I1,r1,q1⟩=>?_))
 refine wpAny_bind (wpAny_holding (aK (hi pins s1 σ H1 _ I1 q1) fun iv s2 ⟨y,H2,I2,r2,q2⟩=>?_))
 refine wpAny_bind (wpAny_standAt (wpAny_bind (wpAny_holding (aK (hs pins s2 σ H2 x y v ov iv u _ I2 r1 r2 r q2) fun _ s3 ⟨H3,I3,q3⟩=>?_))))
 exact wpAny_release ⟨σ,H3,I3,q3⟩
def m8 (te:TE) (g:TG):TS:=fun D σ H=>te σ H fun x H1=>g x σ H1 D.nx
theorem ki {tg e:Expr} {te:TE} {g:TG} (he:PE X e te) (hg:PG X tg g) (hs:swapsWithSole [tg] e pos.line X.env=pure false:=by rfl) (hw:swappedStores [tg] e X.env=pure none:=by rfl)
  (h1:(assignEach [tg] X.env).map (·.2) = [assign tg X.env]:=by rfl):PS X (.Assign [tg] e pos) (m8 te g):=by
 intro pins s σ H D I h
 refine wpAny_Assign_stores (aK (he pins s σ H _ I h) fun v s1 ⟨x,H1,I1,r1,q1⟩=>?_) hs hw
 rw [h1]
 exact aK (hg pins s1 σ H1 x v _ I1 r1 q1) fun _ s2 q=>q
theorem sO {i:Nat} {x:Str} {e:Expr} {te:TE} {pos':Pos} (hN:X.N.Nodup) (hi:X.N[i]? = some x) (hx:Loc X.env.scope x) (he:PE X e te) (hs:swapsWith e (some (.Name x pos')) pos.line X.env=pure false:=by rfl) (hf:X.fn x=true\/X.env.scope.names.lookup x=some .local:=by first | exact .inl rfl | exact .inr rfl | assumption) :
  PS X (.Assign [.Name x pos'] e pos) (m8 te (gH i)):=by
 intro pins s σ H D I h
 refine wpAny_Assign_Name (aK (he pins s σ H _ I h) fun v s1 ⟨y,H1,I1,r1,q1⟩=>?_) hs
 exact kf I1 hN hi hx r1 (fun s2 I2=>⟨_,H1,I2,q1⟩) hf
end
section
variable {X:Cx} {pos:Pos}
def sP (c:TT) (tb:TS):TS:=fun D σ H=>∃ W:Nat->St->Hp->Prop,(∃ m,W m σ H)/\∀ m σ H,W m σ H ->
 c σ H fun b H1=>if b=true then ∃ N:St->Hp->Prop,(∀ σ' H',N σ' H'->∃ m',m' < m/\W m' σ' H')/\tb { D with nx:=N,ct:=N,bk:=D.nx } σ H1 else D.nx σ H1
theorem kj {c:Expr} {body:List Stmt} {tc:TT} {tb:TS} (hp:PassesOwn (model X.prog X.w) X.A X.env X.xe) (hc:PT X c tc) (hb:eF X body tb):PS X (.While c body [] pos) (sP tc tb):=by
 intro pins s σ H D I h
 obtain⟨W,⟨m0,w0⟩,turn⟩:=h
 refine wpAny_While (codeAny_whileLoop (fun n s'=>∃ σ' H',Inv X pins σ' H' s'/\W n σ' H') ?_ m0 ⟨σ,H,I,w0⟩)
 rintro n s1 ⟨σ1,H1,I1,w1⟩
 refine wpAny_passesOwn hp (aK (hc pins s1 σ1 H1 _ I1 (turn n σ1 H1 w1)) fun b s2 ⟨H2,I2,q2⟩=>?_)
 cases b with
 | true =>
  obtain⟨N,hN,q2⟩:=q2
  rw [if_pos rfl]
  refine wpAny_passesOwn hp (aK (hb pins s2 σ1 H2 _ I2 q2) fun f s3 q3=>?_)
  cases f with
  | next =>
   obtain⟨σ3,H3,I3,n3⟩:=q3
   obtain⟨m',hm,w3⟩:=hN σ3 H3 n3
   exact⟨m',hm,σ3,H3,I3,w3⟩
  | cont =>
   obtain⟨σ3,H3,I3,n3⟩:=q3
   obtain⟨m',hm,w3⟩:=hN σ3 H3 n3
   exact⟨m',hm,σ3,H3,I3,w3⟩
  | brk=>exact q3
  | ret v=>exact q3
 | false =>
  rw [if_neg Bool.false_ne_true]
  exact wpAny_execs_nil ⟨σ1,H2,I2,q2⟩
end
structure It where
 go:Nat->Hp->Prop
 mn:Nat->Hp->V->Hp->Prop
 stop:Nat->Hp->Prop
def d9 (X:Cx) (pins:List (Addr × Obj)) (H:Hp) (b:Addr):Prop :=
 H b=none/\b ≠ X.env.locals/\b ∉ X.fs/\(b ∈ X.ex\/X.bO.heap.objs.size<=b)/\(∀ x c,X.env.cells.lookup x=some c->c ≠ b)/\∀ p ∈ X.pn++pins,p.1 ≠ b
theorem Inv.jd {X:Cx} {pins:List (Addr × Obj)} {σ : St} {H H':Hp} {s:Shared} {b:Addr} (I:Inv X pins σ H s) (hb:s.heap.objs.size<=b) (hn:H' b=none):d9 X pins H' b:=by
 refine⟨hn,Nat.ne_of_gt (Nat.lt_of_lt_of_le I.lt hb),I.uN hb,.inr (Nat.le_trans I.sz hb),fun x c e z=>?_,fun p hp z=>?_⟩
 ·obtain⟨v,q⟩:=I.cell x c e
  exact absurd (Nat.lt_of_lt_of_le q.lt (by rw [z];exact hb)) (Nat.lt_irrefl _)
 ·exact absurd (Nat.lt_of_lt_of_le (Heap.lt_size (I.pin p hp).1) (by rw [z];exact hb)) (Nat.lt_irrefl _)
structure Turn (P:Program) (w:World) (K:PySem.W.Frag) (tg:Expr) (J:It) (fp:List Addr) (it:Addr) (tn:Nat->Heap->Prop):Prop where
 mem:it ∈ fp
 obj:∀ i h,tn i h->∀ b ∈ fp,∃ o,h.get? b=some o/\∀ v,o.data ≠ .cell v
 keep:∀ i h h',tn i h->(∀ b ∈ fp,∀ o,h.get? b=some o->h'.get? b=some o)->tn i h'
 item:∀ (X:Cx),X.prog=P->X.w=w->X.K=K->X.calm=true->∀ (i:Nat) (pins:List (Addr × Obj)) (s:Shared) (σ : St) (H:Hp) (E:Value->Shared->Prop),Inv X pins σ H s->(∀ b ∈ fp,d9 X pins H b)->tn i s.heap->J.go i H ->
  wpAny (model P w) X.A (pyNext (.ref it)) (fun r s1=>∃ u,r=some u /\
   wpAny (model P w) X.A (letOwnedTupleGo tg (.ref it) u) (fun _ s2=>∃ x H',Inv X pins σ H' s2/\RelV x u/\J.mn i H x H'/\tn (i+1) s2.heap/\∀ b ∈ fp,H' b=none) E s1) E s
 done:∀ (X:Cx),X.prog=P->X.w=w->X.K=K->X.calm=true->∀ (i:Nat) (pins:List (Addr × Obj)) (s:Shared) (σ : St) (H:Hp) (E:Value->Shared->Prop),Inv X pins σ H s->(∀ b ∈ fp,d9 X pins H b)->tn i s.heap->J.stop i H ->
  wpAny (model P w) X.A (pyNext (.ref it)) (fun r s1=>r=none/\Inv X pins σ H s1) E s
 self:∀ (A:Around) (i:Nat) (s:Shared) (Q:Value->Shared->Prop) (E:Value->Shared->Prop),tn i s.heap->Q (.ref it) s->wpAny (model P w) A (pyIter (.ref it)) Q E s
abbrev TI:=St->Hp->(It->Hp->Prop)->Prop
def uI (X:Cx) (pins:List (Addr × Obj)) (σ : St) (tg:Expr) (R:It->Hp->Prop) (itv:Value) (s2:Shared):Prop :=
 ∃ (it:Addr) (fp:List Addr) (tn:Nat->Heap->Prop) (J:It) (H':Hp),itv=.ref it/\Inv X pins σ H' s2/\Turn X.prog X.w X.K tg J fp it tn/\tn 0 s2.heap/\(∀ b ∈ fp,d9 X pins H' b)/\R J H'
def PI (X:Cx) (tg iter:Expr) (wi:TI):Prop :=
 ∀ (pins:List (Addr × Obj)) (s:Shared) (σ : St) (H:Hp) (R:It->Hp->Prop),Inv X pins σ H s->wi σ H R ->
  wpAny (model X.prog X.w) X.A (eval iter X.env) (fun v s1=>wpAny (model X.prog X.w) X.A (pyIter v) (uI X pins σ tg R) X.xe s1) X.xe s
theorem m9 {M:Model} {A:Around} {E:Value->Shared->Prop} {s:Shared} {tg:Expr} {it:Addr} {u:Value} {o:Obj} {n:String} {vs:Array Value} {Q:Unit->Shared->Prop} (ho:s.heap.get? it=some o) (hc:o.cls=.type n) (hd:o.data=.fields vs)
    (hn:["enumerate", "zip", "dict_itemiterator", "dict_reverseitemiterator", "odict_iterator", "itertools.zip_longest", "itertools.pairwise"].contains n=false) (hQ:Q () s):wpAny M A (letOwnedTupleGo tg (.ref it) u) Q E s:=by
  unfold letOwnedTupleGo
  cases tg <;> first
    | exact wpAny_pure hQ
    | (cases u <;> first
        | exact wpAny_pure hQ
        | (refine wpAny_bind (wpAny_load ho ?_)
           rw [hc,hd]
           show wpAny M A (if (["enumerate", "zip", "dict_itemiterator", "dict_reverseitemiterator", "odict_iterator", "itertools.zip_longest", "itertools.pairwise"].contains n && vs[0]? == some (rawInt _))=true then _ else _) Q E s
           rw [if_neg (by intro h;rw [hn,Bool.false_and] at h;cases h)]
           exact wpAny_pure hQ))
def oo (K:PySem.W.Frag) (a:Addr):It :=
 ⟨fun i H=>∃ xs x,ax K H a xs/\xs[i]? = some x,fun i H x H'=>H' = H/\∀ xs,ax K H a xs->xs[i]? = some x,fun i H=>∃ xs,ax K H a xs/\xs.length<=i⟩
def oq (K:PySem.W.Frag) (a:Addr):It :=
 ⟨fun i H=>∃ xs x,ay K H a xs/\xs[i]? = some x,fun i H x H'=>H' = H/\∀ xs,ay K H a xs->xs[i]? = some x,fun i H=>∃ xs,ay K H a xs/\xs.length<=i⟩
def km (lo:Int) (n:Nat):It:=⟨fun i _=>i < n,fun i H x H'=>H' = H/\x=.int (lo+i),fun i _=>n<=i⟩
theorem ou {P:Program} {w:World} {K:PySem.W.Frag} {tg:Expr} (a it:Addr):Turn P w K tg (oo K a) [it] it (fun i h=>h.IsListIter it a i) where
 mem:=by simp
 obj:=fun i h st b hb=>by
  have e:b=it:=by simpa using hb
  subst e
  obtain⟨o,e,c,d⟩:=st
  exact⟨o,e,fun v z=>by rw [d] at z;cases z⟩
 keep:=fun i h h' st k=>st.at fun o e=>k it (by simp) o e
 item:=by
  intro X hP hw hK hc i pins s σ H E I hf st hg
  subst hP hw hK
  obtain⟨xs,x,hq,hx⟩:=hg
  obtain⟨its,rv,p,hz⟩:=I.list hq
  obtain⟨u,hu,ru⟩:=rv.get hx
  obtain⟨f0,f1,f2,f3,f4,f5⟩:=hf it (by simp)
  refine wpAny_pyNext_list_item st p.isList (x:=u) (by simpa using hu) fun h' st' sb=>?_
  have I1:Inv X pins σ H { s with heap:=h' }:=I.turned (t':=s.toks) (fun b o hb e=>(sb.2 b hb).trans e) f0 f1 f3 f4 f5
  obtain⟨o,e,c,d⟩:=id st'
  exact⟨u,rfl,m9 (s:={ s with heap:=h' }) e c d (by decide) ⟨x,H,I1,ru,⟨rfl,fun ys hy=>by rw [I.pN hy hq];exact hx⟩,st',fun b hb=>(hf b hb).1⟩⟩
 done:=by
  intro X hP hw hK hc i pins s σ H E I hf st hg
  subst hP hw hK
  obtain⟨xs,hq,hx⟩:=hg
  obtain⟨its,rv,p,hz⟩:=I.list hq
  obtain⟨f0,f1,f2,f3,f4,f5⟩:=hf it (by simp)
  have hl:=rv.length
  exact wpAny_pyNext_list_end (I.ok.hd hc) st p.isList (by simp;omega) fun h' eb=>⟨rfl,I.turned (t':=s.toks) (fun b o hb e=>eb b o hb e) f0 f1 f3 f4 f5⟩
 self:=fun _ _ _ _ _ st h=>wpAny_pyIter_listiter st h
theorem nc {P:Program} {w:World} {K:PySem.W.Frag} {tg:Expr} (a it:Addr):Turn P w K tg (oq K a) [it] it (fun i h=>h.IsTupleIter it a i) where
 mem:=by simp
 obj:=fun i h st b hb=>by
  have e:b=it:=by simpa using hb
  subst e
  obtain⟨o,e,c,d⟩:=st
  exact⟨o,e,fun v z=>by rw [d] at z;cases z⟩
 keep:=fun i h h' st k=>st.at fun o e=>k it (by simp) o e
 item:=by
  intro X hP hw hK hc i pins s σ H E I hf st hg
  subst hP hw hK
  obtain⟨xs,x,hq,hx⟩:=hg
  obtain⟨its,rv,p,hz⟩:=I.tuple hq
  obtain⟨u,hu,ru⟩:=rv.get hx
  obtain⟨f0,f1,f2,f3,f4,f5⟩:=hf it (by simp)
  refine wpAny_pyNext_tuple_item st (show s.heap.IsTuple a its.toArray from p) (x:=u) (by simpa using hu) fun h' st' sb=>?_
  have I1:Inv X pins σ H { s with heap:=h' }:=I.turned (t':=s.toks) (fun b o hb e=>(sb.2 b hb).trans e) f0 f1 f3 f4 f5
  obtain⟨o,e,c,d⟩:=id st'
  exact⟨u,rfl,m9 (s:={ s with heap:=h' }) e c d (by decide) ⟨x,H,I1,ru,⟨rfl,fun ys hy=>by rw [I.fS hy hq];exact hx⟩,st',fun b hb=>(hf b hb).1⟩⟩
 done:=by
  intro X hP hw hK hc i pins s σ H E I hf st hg
  subst hP hw hK
  obtain⟨xs,hq,hx⟩:=hg
  obtain⟨its,rv,p,hz⟩:=I.tuple hq
  obtain⟨f0,f1,f2,f3,f4,f5⟩:=hf it (by simp)
  have hl:=rv.length
  exact wpAny_pyNext_tuple_end (I.ok.hd hc) st (show s.heap.IsTuple a its.toArray from p) (by simp;omega) fun h' eb=>⟨rfl,I.turned (t':=s.toks) (fun b o hb e=>eb b o hb e) f0 f1 f3 f4 f5⟩
 self:=fun _ _ _ _ _ st h=>wpAny_pyIter_tupleiter st h
theorem ng {P:Program} {w:World} {K:PySem.W.Frag} {tg:Expr} (it:Addr) (lo:Int) (n:Nat):Turn P w K tg (km lo n) [it] it (fun i h=>IsRangeIter h it (lo+(i:Nat) * 1) ((n:Int) - (i:Nat)) 1) where
 mem:=by simp
 obj:=fun i h st b hb=>by
  have e:b=it:=by simpa using hb
  subst e
  exact⟨_,st,fun v z=>by
   have z':Data.fields _=Data.cell v:=z
   cases z'⟩
 keep:=fun i h h' st k=>k it (by simp) _ st
 item:=by
  intro X hP hw hK hc i pins s σ H E I hf st hg
  subst hP hw hK
  obtain⟨f0,f1,f2,f3,f4,f5⟩:=hf it (by simp)
  have W:=Walks.range (prog:=X.prog) (w:=X.w) (I.ok.hd hc) it lo 1 n
  refine W.item i s _ _ hg st fun v h' tk hv st' kk=>?_
  obtain⟨t,rfl⟩:=hv
  have I1:Inv X pins σ H { s with heap:=h',toks:=tk }:=I.turned (fun b o hb e=>kk b o (by simpa using hb) e) f0 f1 f3 f4 f5
  refine⟨_,rfl,m9 (s:={ s with heap:=h',toks:=tk }) (n := "range_iterator") st' rfl rfl (by decide) ⟨.int (lo+i),H,I1,⟨t,?_⟩,⟨rfl,rfl⟩,st',fun b hb=>(hf b hb).1⟩⟩
  rw [Int.mul_one]
 done:=by
  intro X hP hw hK hc i pins s σ H E I hf st hg
  subst hP hw hK
  obtain⟨f0,f1,f2,f3,f4,f5⟩:=hf it (by simp)
  exact wpAny_pyNext_range_end (I.ok.hd hc) st (by have:n<=i:=hg;omega) fun h' eb=>⟨rfl,I.turned (t':=s.toks) (fun b o hb e=>eb b o hb e) f0 f1 f3 f4 f5⟩
 self:=fun _ _ _ _ _ st h=>wpAny_pyIter_rangeiter st h
section
variable {X:Cx} {tg:Expr}
inductive pQ (K:PySem.W.Frag) (R:(It->Hp->Prop)) (x:V) (H1:Hp):Prop
 | mk (a:_) (_:x=.ref a) (_:(∃ xs,ax K H1 a xs)) (_:R (oo K a) H1)
def uk (K:PySem.W.Frag) (tl:TE):TI:=fun σ H R=>tl σ H fun x H1=>pQ K R x H1
inductive rn (K:PySem.W.Frag) (R:(It->Hp->Prop)) (x:V) (H1:Hp):Prop
 | mk (a:_) (_:x=.ref a) (_:(∃ xs,ay K H1 a xs)) (_:R (oq K a) H1)
def uU (K:PySem.W.Frag) (tl:TE):TI:=fun σ H R=>tl σ H fun x H1=>rn K R x H1
theorem je {l:Expr} {tl:TE} (hl:PE X l tl):PI X tg l (uk X.K tl):=by
 intro pins s σ H R I h
 refine aK (hl pins s σ H _ I h) fun v s1 ⟨x,H1,I1,r1,q1⟩=>?_
 obtain⟨a,e,⟨xs,hq⟩,q⟩:=q1
 subst e
 cases r1
 obtain⟨its,rv,p,hz⟩:=I1.list hq
 refine wpAny_pyIter_list p.isList ?_
 refine⟨s1.heap.objs.size,[s1.heap.objs.size],_,_,H1,rfl,I1.kept (t':=s1.toks) fun b o e=>Heap.get?_push_of_some _ e,ou a _,⟨_,Heap.get?_push_size _ rfl,rfl,rfl⟩,fun b hb=>?_,q⟩
 have e:b=s1.heap.objs.size:=by simpa using hb
 subst e
 exact I1.jd (Nat.le_refl _) (I1.av.fresh (Nat.le_refl _))
theorem dD {l:Expr} {tl:TE} (hl:PE X l tl):PI X tg l (uU X.K tl):=by
 intro pins s σ H R I h
 refine aK (hl pins s σ H _ I h) fun v s1 ⟨x,H1,I1,r1,q1⟩=>?_
 obtain⟨a,e,⟨xs,hq⟩,q⟩:=q1
 subst e
 cases r1
 obtain⟨its,rv,p,hz⟩:=I1.tuple hq
 refine wpAny_pyIter_tuple (show s1.heap.IsTuple a its.toArray from p) ?_
 refine⟨s1.heap.objs.size,[s1.heap.objs.size],_,_,H1,rfl,I1.kept (t':=s1.toks) fun b o e=>Heap.get?_push_of_some _ e,nc a _,⟨_,Heap.get?_push_size _ rfl,rfl,rfl⟩,fun b hb=>?_,q⟩
 have e:b=s1.heap.objs.size:=by simpa using hb
 subst e
 exact I1.jd (Nat.le_refl _) (I1.av.fresh (Nat.le_refl _))
theorem pR {pins:List (Addr × Obj)} {σ : St} {H:Hp} {s:Shared} {R:It->Hp->Prop} {E:Value->Shared->Prop} {lo hi:Int} {t u v:Tok} {tk:Nat} (I:Inv X pins σ H s) (h1:-(2 ^ 62)<=lo) (h2:lo < 2 ^ 62) (h3:-(2 ^ 62)<=hi) (h4:hi < 2 ^ 62)
  (q:R (km lo (hi - lo).toNat) H):wpAny (model X.prog X.w) X.A (pyIter (.ref s.heap.objs.size)) (uI X pins σ tg R) E { s with heap:=s.heap.push { cls:=.type "range",data:=.fields #[.int lo t,.int hi u,.int 1 v] },toks:=tk }:=by
 refine wpAny_pyIter_range (IsRange.new ..) (small_one h1 h2 h3 h4) ?_
 have I1:Inv X pins σ H { s with heap:=s.heap.push { cls:=.type "range",data:=.fields #[.int lo t,.int hi u,.int 1 v] },toks:=tk }:=I.kept fun b o e=>Heap.get?_push_of_some _ e
 refine⟨(s.heap.push { cls:=.type "range",data:=.fields #[.int lo t,.int hi u,.int 1 v] }).objs.size,[(s.heap.push { cls:=.type "range",data:=.fields #[.int lo t,.int hi u,.int 1 v] }).objs.size],_,_,H,rfl,
  I1.kept (t':=tk) fun b o e=>Heap.get?_push_of_some _ e,ng _ lo (hi - lo).toNat,?_,fun b hb=>?_,q⟩
 ·have e1:lo+((0:Nat):Int) * 1=lo:=by simp
  have e2:(((hi - lo).toNat:Nat):Int) - ((0:Nat):Int)=Builtin.Range.rangeSize lo hi 1:=by rw [rangeSize_one];split <;> omega
  show IsRangeIter _ _ (lo+((0:Nat):Int) * 1) ((((hi - lo).toNat:Nat):Int) - ((0:Nat):Int)) 1
  rw [e1,e2]
  exact Heap.get?_push_size _ rfl
 ·have e:b=(s.heap.push { cls:=.type "range",data:=.fields #[.int lo t,.int hi u,.int 1 v] }).objs.size:=by simpa using hb
  subst e
  exact I1.jd (Nat.le_refl _) (I1.av.fresh (Nat.le_refl _))
inductive pS (R:(It->Hp->Prop)) (vs:List V) (H1:Hp):Prop
 | mk (j:Int) (_:vs = [.int j]) (_:-(2 ^ 62)<=j) (_:j < 2 ^ 62) (_:R (km 0 j.toNat) H1)
def um (ta:TA):TI:=fun σ H R=>ta σ H fun vs H1=>pS R vs H1
theorem cy {a:Expr} {ta:TA} {p pos:Pos} (hg:Gl X "range") (hm:X.mg "range" = none) (ha:PA X [a] ta) (hs:starEach [a] X.env = [(false,eval a X.env)]:=by rfl):PI X tg (.Call (.Name "range" p) [a] [] pos) (um ta):=by
 intro pins s σ H R I h
 refine Call_ (fR I hg hm boot_range (PyProof.Rows.callWith_type1 (aK (ha pos pins s σ H _ I h) fun us s1 ⟨vs,H1,I1,r1,q1⟩=>?_) hs rfl))
 obtain⟨j,e,q1,q2,q⟩:=q1
 subst e
 cases r1 with
 | cons r rr =>
  cases rr
  obtain⟨t,rfl⟩:=r
  exact call_range_1 (pR I1 (by omega) (by omega) q1 q2 (by simpa using q))
def uV (wi:TI) (g:TG) (tb:TS):TS:=fun D σ H=>wi σ H fun J H1=>∃ W:Nat->Nat->St->Hp->Prop,(∃ m,W 0 m σ H1)/\∀ i m σ H,W i m σ H ->
 (J.stop i H/\D.nx σ H)\/(J.go i H/\∃ N:St->Hp->Prop,(∀ σ' H',N σ' H'->∃ m',m' < m/\W (i+1) m' σ' H')/\∀ x H',J.mn i H x H'->g x σ H' fun σ2 H2=>tb { D with nx:=N,ct:=N,bk:=D.nx } σ2 H2)
def fT (fp:List Addr) (h:Heap):List (Addr × Obj):=fp.filterMap fun b=>(h.get? b).map fun o=>(b,o)
theorem dU {fp:List Addr} {h:Heap} {b:Addr} {o:Obj} (hb:b ∈ fp) (e:h.get? b=some o):(b,o) ∈ fT fp h:=List.mem_filterMap.mpr ⟨b,hb,by rw [e];rfl⟩
theorem ow {fp:List Addr} {h:Heap} {p:Addr × Obj} (hp:p ∈ fT fp h):p.1 ∈ fp/\h.get? p.1=some p.2:=by
 obtain⟨b,hb,e⟩:=List.mem_filterMap.mp hp
 cases q:h.get? b with
 | none=>rw [q] at e;cases e
 | some o =>
  rw [q] at e
  have e':(b,o)=p:=Option.some.inj e
  subst e'
  exact⟨hb,q⟩
theorem Inv.pinned {pins:List (Addr × Obj)} {σ : St} {H:Hp} {s:Shared} {fp:List Addr} (I:Inv X pins σ H s) (hf:∀ b ∈ fp,d9 X pins H b) (ho:∀ b ∈ fp,∃ o,s.heap.get? b=some o/\∀ v,o.data ≠ .cell v):Inv X (pins++fT fp s.heap) σ H s :=
 I.mh fun p hp=>(List.mem_append.mp hp).elim (fun z=>I.pin p (List.mem_append_right _ z)) fun z=>by
  obtain⟨hb,e⟩:=ow z
  obtain⟨f0,f1,f2,_⟩:=hf p.1 hb
  obtain⟨o,e',d⟩:=ho p.1 hb
  rw [e] at e';cases e'
  exact⟨e,f0,f1,f2,d⟩
theorem Inv.ef {pins pl:List (Addr × Obj)} {σ : St} {H:Hp} {s:Shared} (I:Inv X (pins++pl) σ H s):Inv X pins σ H s:=I.mh fun p hp=>I.pin p (List.mem_append_right _ (List.mem_append_left _ hp))
theorem bV {iter:Expr} {body:List Stmt} {wi:TI} {g:TG} {tb:TS} {pos:Pos} (hp:PassesOwn (model X.prog X.w) X.A X.env X.xe) (hc:X.calm=true) (hi:PI X tg iter wi) (hg:PG X tg g) (hb:eF X body tb)
  (hs:∀ x,foldedSetIterable iter X.env x=pure x:=by intro _;rfl):PS X (.For tg iter body [] pos) (uV wi g tb):=by
 intro pins s σ H D I h
 refine wpAny_For (aK (hi pins s σ H _ I h) fun v s1 h1=>aK h1 fun itv s2 h2=>?_) hs
 obtain⟨it,fp,tn,J,H2,e,I2,T,st2,f2,W,⟨m0,w0⟩,turn⟩:=h2
 subst e
 have stat:∀ {H':Hp},(∀ b ∈ fp,H' b=none)->∀ b ∈ fp,d9 X pins H' b:=fun hn b hb=>⟨hn b hb,(f2 b hb).2⟩
 refine codeAny_forLoop_any (fun n s'=>∃ i σ' H',Inv X pins σ' H' s'/\tn i s'.heap/\(∀ b ∈ fp,H' b=none)/\W i n σ' H') ?_ m0 ⟨0,σ,H2,I2,st2,fun b hb=>(f2 b hb).1,w0⟩
 rintro n s3 ⟨i,σ3,H3,I3,st3,fr3,w3⟩
 rcases turn i n σ3 H3 w3 with ⟨stop,qn⟩ | ⟨go,N,hN,step⟩
 ·refine wpAny_passesOwn hp (aK (T.done X rfl rfl rfl hc i pins s3 σ3 H3 X.xe I3 (stat fr3) st3 stop) fun r s4 ⟨hr,I4⟩=>?_)
  subst hr
  exact wpAny_execs_nil ⟨σ3,H3,I4,qn⟩
 ·refine wpAny_passesOwn hp (aK (T.item X rfl rfl rfl hc i pins s3 σ3 H3 X.xe I3 (stat fr3) st3 go) fun r s4 ⟨u,hr,h4⟩=>?_)
  subst hr
  refine wpAny_passesOwn hp (aK h4 fun _ s5 ⟨x,H5,I5,r5,y5,st5,fr5⟩=>?_)
  have I5':=I5.pinned (stat fr5) (T.obj _ _ st5)
  refine wpAny_passesOwn hp (aK (hg _ s5 σ3 H5 x u _ I5' r5 (step x H5 y5)) fun _ s6 ⟨σ6,H6,I6,q6⟩=>?_)
  refine wpAny_passesOwn hp (aK (hb _ s6 σ6 H6 _ I6 q6) fun f s7 q7=>?_)
  have again:∀ {σ7:St} {H7:Hp},Inv X (pins++fT fp s5.heap) σ7 H7 s7->N σ7 H7->∃ m,m < n/\∃ i σ' H',Inv X pins σ' H' s7/\tn i s7.heap/\(∀ b ∈ fp,H' b=none)/\W i m σ' H':=fun {σ7 H7} I7 n7=>by
   obtain⟨m',hm,w7⟩:=hN σ7 H7 n7
   refine⟨m',hm,i+1,σ7,H7,I7.ef,T.keep _ _ _ st5 fun b hb o e=>(I7.pin (b,o) (List.mem_append_right _ (List.mem_append_right _ (dU hb e)))).1,fun b hb=>?_,w7⟩
   obtain⟨o,e,d⟩:=T.obj _ _ st5 b hb
   exact (I7.pin (b,o) (List.mem_append_right _ (List.mem_append_right _ (dU hb e)))).2.1
  cases f with
  | next=>obtain⟨σ7,H7,I7,n7⟩:=q7;exact again I7 n7
  | cont=>obtain⟨σ7,H7,I7,n7⟩:=q7;exact again I7 n7
  | brk=>obtain⟨σ7,H7,I7,q7⟩:=q7;exact⟨σ7,H7,I7.ef,q7⟩
  | ret v=>obtain⟨x7,σ7,H7,I7,r7,q7⟩:=q7;exact⟨x7,σ7,H7,I7.ef,r7,q7⟩
end
theorem ik {K:PySem.W.Frag} {a:Addr} {xs:List V} {g:TG} {tb:TS} {D:Ends} {σ : St} {H:Hp} (Pv:Nat->St->Hp->Prop) (h0:Pv 0 σ H) (hl:∀ i σ H,i<=xs.length->Pv i σ H->ax K H a xs)
  (hs:∀ i x σ H,xs[i]? = some x->Pv i σ H->g x σ H fun σ2 H2=>tb { D with nx:=Pv (i+1),ct:=Pv (i+1),bk:=D.nx } σ2 H2) (hd:∀ σ H,Pv xs.length σ H->D.nx σ H) :
  ∃ W:Nat->Nat->St->Hp->Prop,(∃ m,W 0 m σ H)/\∀ i m σ H,W i m σ H ->
   ((oo K a).stop i H/\D.nx σ H)\/((oo K a).go i H/\∃ N:St->Hp->Prop,(∀ σ' H',N σ' H'->∃ m',m' < m/\W (i+1) m' σ' H')/\∀ x H',(oo K a).mn i H x H'->g x σ H' fun σ2 H2=>tb { D with nx:=N,ct:=N,bk:=D.nx } σ2 H2):=by
 refine⟨fun i m σ H=>m=xs.length - i/\i<=xs.length/\Pv i σ H,⟨xs.length,by simp,Nat.zero_le _,h0⟩,?_⟩
 rintro i m σ H ⟨rfl,hi,p⟩
 have q:=hl i σ H hi p
 by_cases hlt:i < xs.length
 ·refine .inr ⟨⟨xs,xs[i],q,by simp [hlt]⟩,Pv (i+1),fun σ' H' p'=>⟨xs.length - (i+1),by omega,rfl,hlt,p'⟩,fun x H' y=>?_⟩
  obtain⟨e,y⟩:=y
  subst e
  exact hs i x σ _ (y xs q) p
 ·have e:i=xs.length:=by omega
  subst e
  exact .inl ⟨⟨xs,q,Nat.le_refl _⟩,hd σ H p⟩
theorem cM {K:PySem.W.Frag} {a:Addr} {xs:List V} {g:TG} {tb:TS} {D:Ends} {σ : St} {H:Hp} (Pv:Nat->St->Hp->Prop) (h0:Pv 0 σ H) (hl:∀ i σ H,i<=xs.length->Pv i σ H->ay K H a xs)
  (hs:∀ i x σ H,xs[i]? = some x->Pv i σ H->g x σ H fun σ2 H2=>tb { D with nx:=Pv (i+1),ct:=Pv (i+1),bk:=D.nx } σ2 H2) (hd:∀ σ H,Pv xs.length σ H->D.nx σ H) :
  ∃ W:Nat->Nat->St->Hp->Prop,(∃ m,W 0 m σ H)/\∀ i m σ H,W i m σ H ->
   ((oq K a).stop i H/\D.nx σ H)\/((oq K a).go i H/\∃ N:St->Hp->Prop,(∀ σ' H',N σ' H'->∃ m',m' < m/\W (i+1) m' σ' H')/\∀ x H',(oq K a).mn i H x H'->g x σ H' fun σ2 H2=>tb { D with nx:=N,ct:=N,bk:=D.nx } σ2 H2):=by
 refine⟨fun i m σ H=>m=xs.length - i/\i<=xs.length/\Pv i σ H,⟨xs.length,by simp,Nat.zero_le _,h0⟩,?_⟩
 rintro i m σ H ⟨rfl,hi,p⟩
 have q:=hl i σ H hi p
 by_cases hlt:i < xs.length
 ·refine .inr ⟨⟨xs,xs[i],q,by simp [hlt]⟩,Pv (i+1),fun σ' H' p'=>⟨xs.length - (i+1),by omega,rfl,hlt,p'⟩,fun x H' y=>?_⟩
  obtain⟨e,y⟩:=y
  subst e
  exact hs i x σ _ (y xs q) p
 ·have e:i=xs.length:=by omega
  subst e
  exact .inl ⟨⟨xs,q,Nat.le_refl _⟩,hd σ H p⟩
theorem fU {lo:Int} {n:Nat} {g:TG} {tb:TS} {D:Ends} {σ : St} {H:Hp} (Pv:Nat->St->Hp->Prop) (h0:Pv 0 σ H)
  (hs:∀ i σ H,i < n->Pv i σ H->g (.int (lo+i)) σ H fun σ2 H2=>tb { D with nx:=Pv (i+1),ct:=Pv (i+1),bk:=D.nx } σ2 H2) (hd:∀ σ H,Pv n σ H->D.nx σ H) :
  ∃ W:Nat->Nat->St->Hp->Prop,(∃ m,W 0 m σ H)/\∀ i m σ H,W i m σ H ->
   ((km lo n).stop i H/\D.nx σ H)\/((km lo n).go i H/\∃ N:St->Hp->Prop,(∀ σ' H',N σ' H'->∃ m',m' < m/\W (i+1) m' σ' H')/\∀ x H',(km lo n).mn i H x H'->g x σ H' fun σ2 H2=>tb { D with nx:=N,ct:=N,bk:=D.nx } σ2 H2):=by
 refine⟨fun i m σ H=>m=n - i/\i<=n/\Pv i σ H,⟨n,by simp,Nat.zero_le _,h0⟩,?_⟩
 rintro i m σ H ⟨rfl,hi,p⟩
 by_cases hlt:i < n
 ·refine .inr ⟨hlt,Pv (i+1),fun σ' H' p'=>⟨n - (i+1),by omega,rfl,hlt,p'⟩,fun x H' y=>?_⟩
  obtain⟨e,y⟩:=y
  subst e y
  exact hs i σ _ hlt p
 ·have e:i=n:=by omega
  subst e
  exact .inl ⟨Nat.le_refl _,hd σ H p⟩
abbrev R2:=V->V->Hp->VK->Prop
def cv (X:Cx) (f:Value->Value->Sem Value) (r:R2):Prop :=
 ∀ (pins:List (Addr × Obj)) (s:Shared) (σ : St) (H:Hp) (x y:V) (v u:Value) (Q:VK),Inv X pins σ H s->RelV x v->RelV y u->r x y H Q ->
  wpAny (model X.prog X.w) X.A (f v u) (EP X pins σ Q) X.xe s
def cf (X:Cx) (f:Value) (r:List V->Hp->VK->Prop):Prop :=
 ∀ (pins:List (Addr × Obj)) (s:Shared) (σ : St) (H:Hp) (xs:List V) (us:List Value) (Q:VK),Inv X pins σ H s->Vals xs us->r xs H Q ->
  wpAny (model X.prog X.w) X.A (call f us) (EP X pins σ Q) X.xe s
def uW (X:Cx) (r:V->Hp->(Bool->Hp->Prop)->Prop):Prop :=
 ∀ (pins:List (Addr × Obj)) (s:Shared) (σ : St) (H:Hp) (x:V) (v:Value) (Q:Bool->Hp->Prop),Inv X pins σ H s->RelV x v->r x H Q ->
  wpAny (model X.prog X.w) X.A (truthy v) (TP X pins σ Q) X.xe s
def ox (r:R2) (ta tb:TE):TE:=fun σ H Q=>ta σ H fun x H1=>tb σ H1 fun y H2=>r x y H2 Q
inductive rI (C:Int->Int->Prop) (g:Int->Int->V) (x:V) (y:V) (H:Hp) (Q:VK):Prop
 | mk (i j:_) (_:x=.int i) (_:y=.int j) (_:C i j) (_:Q (g i j) H)
inductive ko (g:Int->Int->V) (x:V) (y:V) (H:Hp) (Q:VK):Prop
 | mk (i j:_) (_:x=.int i) (_:y=.int j) (_:Q (g i j) H)
section
variable {X:Cx} {a b c:Expr} {ta tb tc:TE} {pos:Pos}
theorem pT (ha:PE X a ta) (hb:PE X b tb) {pins:List (Addr × Obj)} {s:Shared} {σ : St} {H:Hp} {R:V->V->Hp->Prop} (I:Inv X pins σ H s)
  (h:ta σ H fun x H1=>tb σ H1 fun y H2=>R x y H2) {Q:Value->Shared->Prop} {f:Value->Value->Sem Value}
  (hf:∀ v u s2 x y H2,Inv X pins σ H2 s2->RelV x v->RelV y u->R x y H2->wpAny (model X.prog X.w) X.A (f v u) Q X.xe s2) :
  wpAny (model X.prog X.w) X.A (eval a X.env) (fun v s₁=>wpAny (model X.prog X.w) X.A (eval b X.env) (fun u s₂=>wpAny (model X.prog X.w) X.A (f v u) Q X.xe s₂) X.xe s₁) X.xe s:=by
 refine aK (ha pins s σ H _ I h) fun v s1 ⟨x,H1,I1,r1,q1⟩=>?_
 refine aK (hb pins s1 σ H1 _ I1 q1) fun u s2 ⟨y,H2,I2,r2,q2⟩=>?_
 exact hf v u s2 x y H2 I2 r1 r2 q2
theorem aG {op:Operator} {r:R2} (ho:cv X (binaryOp op) r) (ha:PE X a ta) (hb:PE X b tb):PE X (.BinOp a op b pos) (ox r ta tb):=by
 intro pins s σ H Q I h
 exact wpAny_BinOp (pT ha hb I h fun v u s2 x y H2 I2 rx ry q=>ho pins s2 σ H2 x y v u Q I2 rx ry q)
theorem mq {f:Value->Value->Sem Value} {C:Int->Int->Prop} {g:Int->Int->Int}
  (rule:∀ (i j:Int) (t u:Tok) (s:Shared) (Q:Value->Shared->Prop) (E:Value->Shared->Prop),C i j->Q (.int (g i j) s.toks) { s with toks:=s.toks+1 }->wpAny (model X.prog X.w) X.A (f (.int i t) (.int j u)) Q E s) :
  cv X f (rI C fun i j=>.int (g i j)):=by
 intro pins s σ H x y v u Q I rx ry h
 obtain⟨i,j,rfl,rfl,hc,q⟩:=h
 obtain⟨t,rfl⟩:=rx
 obtain⟨t',rfl⟩:=ry
 exact rule i j t t' s _ _ hc ⟨.int (g i j),H,I.tok _,⟨_,rfl⟩,q⟩
theorem sQ {f:Value->Value->Sem Value} {g:Int->Int->Int}
  (rule:∀ (i j:Int) (t u:Tok) (s:Shared) (Q:Value->Shared->Prop) (E:Value->Shared->Prop),Q (.int (g i j) s.toks) { s with toks:=s.toks+1 }->wpAny (model X.prog X.w) X.A (f (.int i t) (.int j u)) Q E s) :
  cv X f (ko fun i j=>.int (g i j)):=by
 intro pins s σ H x y v u Q I rx ry h
 obtain⟨i,j,rfl,rfl,q⟩:=h
 obtain⟨t,rfl⟩:=rx
 obtain⟨t',rfl⟩:=ry
 exact rule i j t t' s _ _ ⟨.int (g i j),H,I.tok _,⟨_,rfl⟩,q⟩
theorem pU {f:Value->Value->Sem Value} {g:Int->Int->Bool}
  (rule:∀ (i j:Int) (t u:Tok) (s:Shared) (Q:Value->Shared->Prop) (E:Value->Shared->Prop),Q (.bool (g i j)) s->wpAny (model X.prog X.w) X.A (f (.int i t) (.int j u)) Q E s) :
  cv X f (ko fun i j=>.bl (g i j)):=by
 intro pins s σ H x y v u Q I rx ry h
 obtain⟨i,j,rfl,rfl,q⟩:=h
 obtain⟨t,rfl⟩:=rx
 obtain⟨t',rfl⟩:=ry
 exact rule i j t t' s _ _ ⟨.bl (g i j),H,I,rfl,q⟩
def uX (i j:Int):Prop:=0 < j/\j < 1073741824
def uY (i j:Int):Prop:=0<=j/\j<=1000000/\i.natAbs < 2 ^ 64
def pV (i j:Int):Prop:=(-(2 ^ 64) < i/\i < 2 ^ 64)\/(-(2 ^ 64) < j/\j < 2 ^ 64)
theorem pV.ok {i j:Int} (h:pV i j):IntMulOk i j:=by
 rcases h with ⟨h1,h2⟩ | ⟨h1,h2⟩
 ·exact .of_left (intBits_le_64 h1 h2)
 ·exact .of_right (intBits_le_64 h1 h2)
theorem cn:cv X (binaryOp .Add) (ko fun i j=>.int (i+j)):=sQ fun _ _ _ _ _ _ _ q=>add_int q
theorem iM:cv X (binaryOp .Sub) (ko fun i j=>.int (i - j)):=sQ fun _ _ _ _ _ _ _ q=>sub_int q
theorem eh:cv X (binaryOp .Mult) (rI pV fun i j=>.int (i * j)):=mq fun _ _ _ _ _ _ _ hc q=>mul_int q hc.ok
theorem jf:cv X (binaryOp .FloorDiv) (rI uX fun i j=>.int (i / j)):=mq fun i j _ _ _ _ _ hc q=>by
 have h1:(0:Int) < j:=hc.1
 have h2:j < 1073741824:=hc.2
 exact floordiv_int (by omega) (by rw [Int.fdiv_eq_ediv_of_nonneg i (by omega)];exact q) (.inl (PyProof.noPylong_small (by omega)))
theorem cR:cv X (binaryOp .Mod) (rI (fun _ j=>0 < j) fun i j=>.int (i % j)):=mq fun i j _ _ _ _ _ hc q=>by
 have h1:(0:Int) < j:=hc
 exact mod_int' (by omega) (by rw [Int.fmod_eq_emod_of_nonneg i (by omega)];exact q)
theorem iN:cv X (binaryOp .Pow) (rI uY fun i j=>.int (i ^ j.toNat)):=mq fun _ _ _ _ _ _ _ hc q=>pow_int_small hc.1 hc.2.1 hc.2.2 q
end
def uZ:V->V->Bool
 | .bo,.bo=>true | .bo,.int _=>true | .int _,.bo=>true | .bo,.bl _=>true | .bl _,.bo=>true | .bo,.str _=>true | .str _,.bo=>true
 | .int _,.int _=>true | .bl _,.bl _=>true | .str _,.str _=>true | .fO _,.fO _=>true
 | .int _,.str _=>true | .str _,.int _=>true | .bl _,.str _=>true | .str _,.bl _=>true
 | _,_=>false
def vo:R2:=fun x y H Q=>uZ x y=true/\Q (.bl (decide (x=y))) H
theorem rp {i j:Int}:decide (V.int i=V.int j)=(i == j):=by
 rw [Bool.eq_iff_iff]
 simp
theorem sR {i j:Bool}:decide (V.bl i=V.bl j)=(i == j):=by
 rw [Bool.eq_iff_iff]
 simp
theorem rq {i j:Str}:decide (V.str i=V.str j)=(i == j):=by
 rw [Bool.eq_iff_iff]
 simp
theorem rz {i j:Array UInt8}:decide (V.fO i=V.fO j)=(i.toList == j.toList):=by
 rw [Bool.eq_iff_iff]
 cases i
 cases j
 simp
section
variable {X:Cx} {a b c:Expr} {ta tb tc:TE} {pos:Pos}
theorem bP {pins:List (Addr × Obj)} {σ : St} {H:Hp} {s:Shared} {Q:VK} {k k':Bool} (I:Inv X pins σ H s) (q:Q (.bl k) H) (e:k=k'):EP X pins σ Q (.bool k') s:=by
 subst e
 exact⟨.bl k,H,I,rfl,q⟩
theorem cS:cv X (compareOp .Eq) vo:=by
 intro pins s σ H x y v u Q I rx ry h
 obtain⟨hs,q⟩:=h
 cases x with
 | bo =>
  cases rx
  cases y with
  | bo=>cases ry;exact PySem.EqNone.eq_none_none (bP I q (by simp))
  | bl j=>cases ry;exact PySem.EqNone.eq_none_bool (bP I q (by simp))
  | int j=>obtain⟨t',rfl⟩:=ry;exact PySem.EqNone.eq_none_int (bP I q (by simp))
  | str j=>obtain⟨t',rfl⟩:=ry;exact PySem.EqNone.eq_none_str (bP I q (by simp))
  | _=>exact absurd (show false=true from hs) Bool.false_ne_true
 | bl i =>
  cases rx
  cases y with
  | bo=>cases ry;exact PySem.EqNone.eq_bool_none (bP I q (by simp))
  | bl j=>cases ry;exact eq_bool (bP I q sR)
  | str j=>obtain⟨t',rfl⟩:=ry;exact PySem.EqMixed.eq_bool_str (bP I q (by simp))
  | _=>exact absurd (show false=true from hs) Bool.false_ne_true
 | int i =>
  obtain⟨t,rfl⟩:=rx
  cases y with
  | bo=>cases ry;exact PySem.EqNone.eq_int_none (bP I q (by simp))
  | int j=>obtain⟨t',rfl⟩:=ry;exact eq_int (bP I q rp)
  | str j=>obtain⟨t',rfl⟩:=ry;exact PySem.EqMixed.eq_int_str (bP I q (by simp))
  | _=>exact absurd (show false=true from hs) Bool.false_ne_true
 | str i =>
  obtain⟨t,rfl⟩:=rx
  cases y with
  | bo=>cases ry;exact PySem.EqNone.eq_str_none (bP I q (by simp))
  | bl j=>cases ry;exact PySem.EqMixed.eq_str_bool (bP I q (by simp))
  | int j=>obtain⟨t',rfl⟩:=ry;exact PySem.EqMixed.eq_str_int (bP I q (by simp))
  | str j=>obtain⟨t',rfl⟩:=ry;exact eq_str (bP I q rq)
  | _=>exact absurd (show false=true from hs) Bool.false_ne_true
 | fO i =>
  obtain⟨t,rfl⟩:=rx
  cases y with
  | fO j=>obtain⟨t',rfl⟩:=ry;exact PySem.W.eq_bytes (bP I q rz)
  | _=>exact absurd (show false=true from hs) Bool.false_ne_true
 | _=>cases y <;> exact absurd (show false=true from hs) Bool.false_ne_true
theorem jY:cv X (compareOp .Lt) (ko fun i j=>.bl (decide (i < j))):=pU fun _ _ _ _ _ _ _ q=>lt_int q
theorem qN:cv X (compareOp .LtE) (ko fun i j=>.bl (decide (i<=j))):=pU fun _ _ _ _ _ _ _ q=>le_int q
theorem uo:cv X (compareOp .Gt) (ko fun i j=>.bl (decide (j < i))):=pU fun _ _ _ _ _ _ _ q=>gt_int q
theorem ba (b:Expr) {op:CmpOp} (h:op ≠ .In:=by decide) (h2:op ≠ .NotIn:=by decide):behindInMarks op b=false:=by
 have e1:(op == CmpOp.In)=false:=by cases op <;> first | rfl | exact absurd rfl h
 have e2:(op == CmpOp.NotIn)=false:=by cases op <;> first | rfl | exact absurd rfl h2
 cases b <;> simp [behindInMarks,e1,e2]
theorem gJ {op:CmpOp} {r:R2} (ho:cv X (compareOp op) r) (ha:PE X a ta) (hb:PE X b tb) (hm:behindInMarks op b=false):PE X (.Compare a [op] [b] pos) (ox r ta tb):=by
 intro pins s σ H Q I h
 exact wpAny_Compare1 (pT ha hb I h fun v u s2 x y H2 I2 rx ry q=>ho pins s2 σ H2 x y v u Q I2 rx ry q) hm
inductive pW (Q:(Bool->Hp->Prop)) (x:V) (H':Hp):Prop
 | mk (k:_) (_:x=.bl k) (_:Q k H')
def uq (t:TE):TT:=fun σ H Q=>t σ H fun x H'=>pW Q x H'
theorem aR {op:CmpOp} {r:R2} (ho:cv X (compareOp op) r) (ha:PE X a ta) (hb:PE X b tb) (hm:behindInMarks op b=false):PT X (.Compare a [op] [b] pos) (uq (ox r ta tb)):=by
 intro pins s σ H Q I h
 refine wpAny_isTrue_Compare1 (aK (ha pins s σ H _ I h) fun v s1 ⟨x,H1,I1,r1,q1⟩=>aK (hb pins s1 σ H1 _ I1 q1) fun u s2 ⟨y,H2,I2,r2,q2⟩ =>
  aK (ho pins s2 σ H2 x y v u _ I2 r1 r2 q2) fun c s3 ⟨z,H3,I3,r3,k,e,q3⟩=>?_) hm
 subst e
 cases r3
 exact wpAny_truthy_bool ⟨H3,I3,q3⟩
def sS (K:PySem.W.Frag) (x:V) (H:Hp) (k:Bool):Prop :=
 match x with
 | .bo=>k=false
 | .bl b=>k=b
 | .int i=>k=(i != 0)
 | .str y=>y.length<=sizeLine/\k=((y.length:Int) != 0)
 | .fO y=>y.size<=sizeLine/\k=((y.size:Int) != 0)
 | .ref p=>(∃ xs,ax K H p xs/\k = !xs.isEmpty)\/(∃ xs,ay K H p xs/\k = !xs.isEmpty)\/∃ kvs,H p=some (.dK kvs)/\k = !kvs.isEmpty
 | _=>False
theorem nh {κ : Type} {kvs:List (κ × V)} {vs:List (κ × Value)} (r:KV kvs vs):(!vs.isEmpty) = !kvs.isEmpty:=by
 cases r <;> rfl
theorem iO {xs:List V} {its:List Value} (r:Vals xs its):(!its.toArray.isEmpty) = !xs.isEmpty:=by
 cases r <;> simp
theorem eX:(sizeLine:Nat) < 2 ^ 63:=by rw [sizeLine_eq];decide
theorem sT:uW X (fun x H Q=>∃ k,sS X.K x H k/\Q k H):=by
 intro pins s σ H x v Q I rx h
 obtain⟨k,e,q⟩:=h
 have hl:=eX
 have hs:sizeLine=16777216:=sizeLine_eq
 cases x with
 | bo =>
  cases rx
  have e':k=false:=e
  subst e'
  exact truthy_none ⟨H,I,q⟩
 | bl b =>
  cases rx
  have e':k=b:=e
  subst e'
  exact wpAny_truthy_bool ⟨H,I,q⟩
 | int i =>
  obtain⟨t,rfl⟩:=rx
  have e':k=(i != 0):=e
  subst e'
  exact PySem.P.truthy_int ⟨H,I,q⟩
 | str y =>
  obtain⟨t,rfl⟩:=rx
  obtain⟨hy,e'⟩:y.length<=sizeLine/\k=((y.length:Int) != 0):=e
  subst e'
  exact PySem.P.truthy_str (by omega) ⟨H,I.tok _,q⟩
 | fO y =>
  obtain⟨t,rfl⟩:=rx
  obtain⟨hy,e'⟩:y.size<=sizeLine/\k=((y.size:Int) != 0):=e
  subst e'
  exact PySem.W.truthy_bytes (by omega) ⟨H,I.tok _,q⟩
 | ref p =>
  cases rx
  have e':(∃ xs,ax X.K H p xs/\k = !xs.isEmpty)\/(∃ xs,ay X.K H p xs/\k = !xs.isEmpty)\/∃ kvs,H p=some (.dK kvs)/\k = !kvs.isEmpty:=e
  rcases e' with ⟨xs,hx,e'⟩ | ⟨xs,hx,e'⟩ | ⟨kvs,hx,e'⟩
  ·subst e'
   obtain⟨its,r,pl,hz⟩:=I.list hx
   have hlen:=r.length
   exact wpAny_truthy_list pl.isList (by simp only [List.size_toArray];omega) ⟨H,I.tok _,by rw [iO r];exact q⟩
  ·subst e'
   obtain⟨its,r,pl,hz⟩:=I.tuple hx
   have hlen:=r.length
   exact truthy_tuple pl (by simp only [List.size_toArray];omega) ⟨H,I.tok _,by rw [iO r];exact q⟩
  ·subst e'
   obtain⟨hz,hS,vs,r,m⟩:kvs.length<=sizeLine/\(p == sysModules)=false/\∃ vs,KV kvs vs/\s.heap.DictOf (ai X.prog X.w) p vs:=I.av p _ hx
   have hlen:kvs.length=vs.length:=Paired.length r
   exact wpAny_truthy_dict hS m (by omega) ⟨H,I.tok _,by rw [nh r];exact q⟩
 | _=>exact (show False from e).elim
theorem pX (ha:PE X a ta) (he:∀ whole,isTrue a X.env whole=(do let v <-whole;standAt a.pos;holding [v] (truthy v))) :
  PT X a (fun σ H Q=>ta σ H fun x H'=>∃ k,sS X.K x H' k/\Q k H'):=by
 intro pins s σ H Q I h
 exact isTrue_plain (aK (ha pins s σ H _ I h) fun v s1 ⟨x,H1,I1,r1,q1⟩=>sT pins s1 σ H1 x v Q I1 r1 q1) (he _)
theorem ni:cv X (binaryOp .Add) (fun x y H Q=>∃ i j,x=.str i/\y=.str j/\i.length+j.length<=sizeLine/\Q (.str (i++j)) H):=by
 intro pins s σ H x y v u Q I rx ry h
 obtain⟨i,j,rfl,rfl,hz,q⟩:=h
 obtain⟨t,rfl⟩:=rx
 obtain⟨t',rfl⟩:=ry
 exact add_str (fun t' tk=>⟨.str (i++j),H,I.tok _,⟨_,rfl⟩,q⟩) hz
theorem vals1 {x:V} {us:List Value} (r:Vals [x] us):∃ u,us = [u]/\RelV x u:=by
 cases r with
 | cons r1 r2=>cases r2;exact⟨_,rfl,r1⟩
theorem vals2 {x y:V} {us:List Value} (r:Vals [x,y] us):∃ u w',us = [u,w']/\RelV x u/\RelV y w':=by
 cases r with
 | cons r1 r2 =>
  cases r2 with
  | cons r3 r4=>cases r4;exact⟨_,_,rfl,r1,r3⟩
theorem oy (hc:X.calm=true):cf X (.builtin "min") (fun xs H Q=>∃ i j,xs = [.int i,.int j]/\Q (.int (if j < i then j else i)) H):=by
 intro pins s σ H xs us Q I r h
 obtain⟨i,j,rfl,q⟩:=h
 obtain⟨u,w',rfl,⟨t,rfl⟩,⟨t',rfl⟩⟩:=vals2 r
 refine min_two_ints (I.ok.hd hc) fun h' tk k=>⟨_,H,I.kept k,?_,q⟩
 by_cases hj:j < i
 ·rw [if_pos hj,if_pos hj];exact⟨_,rfl⟩
 ·rw [if_neg hj,if_neg hj];exact⟨_,rfl⟩
theorem oz:cf X (.type "int") (fun xs H Q=>(∃ i,xs = [.int i]/\Q (.int i) H)\/∃ k,xs = [.bl k]/\Q (.int (if k then 1 else 0)) H):=by
 intro pins s σ H xs us Q I r h
 rcases h with ⟨i,rfl,q⟩ | ⟨k,rfl,q⟩
 ·obtain⟨u,rfl,t,rfl⟩:=vals1 r
  exact call_int_int ⟨.int i,H,I,⟨_,rfl⟩,q⟩
 ·obtain⟨u,rfl,r1⟩:=vals1 r
  cases r1
  exact call_int_bool ⟨.int (if k then 1 else 0),H,I.tok _,⟨_,rfl⟩,q⟩
end
section
variable {prog:Program} {w:World} {A:Around} {E:Value->Shared->Prop} {s:Shared} {K:PySem.W.Frag} {x dx C f:Addr} {mA:Str->Option Value} {name:Str} {v:Value}
end
section
variable {P:Program} {w:World} {H H':Hp} {h h':Heap} {a C dx:Addr} {fs fs':List (Str × V)}
end
section
variable {X:Cx} {pins:List (Addr × Obj)} {σ : St} {H:Hp} {s:Shared} {a C dx:Addr} {fs:List (Str × V)} {f:Str} {v:V} {A:Around} {E:Value->Shared->Prop}
end
section
variable {X:Cx} {o e value:Expr} {f:Str} {pos pos' tpos:Pos} {ta tv:TE}
end
section
variable {X:Cx} {pins:List (Addr × Obj)} {σ : St} {H:Hp} {s:Shared} {A:Around} {E:Value->Shared->Prop} {Q:Value->Shared->Prop} {c:Value} {b:Bool}
end
structure bY (k:Nat) (A:Around):Prop where
 hd:A.handled=none
 dp:A.depth+3 * k+5 < recursionLimit
 un:A.units+16 * k+200 < cLine
theorem bY.mono {j k:Nat} {A:Around} (r:bY k A) (h:j<=k):bY j A:=⟨r.hd,by have:=r.dp;omega,by have:=r.un;omega⟩
theorem bY.deeper {k:Nat} {A:Around} (r:bY (k+1) A) (env:Env):bY k (A.deeper env) :=
 ⟨r.hd,by have:=r.dp;show A.depth+1+3 * k+5 < _;omega,by have:=r.un;show A.units+3+16 * k+200 < _;omega⟩
theorem bY.depth {k:Nat} {A:Around} (r:bY k A):A.depth < recursionLimit:=by have:=r.dp;omega
theorem bY.units {k:Nat} {A:Around} (r:bY k A):A.units+64 < cLine:=by have:=r.un;omega
def kq:TA:=fun _ H Q=>Q [] H
def fi (ta:TE) (tr:TA):TA:=fun σ H Q=>ta σ H fun x H1=>tr σ H1 fun xs H2=>Q (x :: xs) H2
section
variable {X:Cx} {e:Expr} {es:List Expr} {te:TE} {t:TA} {pos:Pos}
theorem cT:PA X [] kq:=fun _ _ _ _ H Q I h=>Calls.spliced_nil ⟨[],H,I,.nil,h⟩
theorem bf (ha:PE X e te) (hr:PA X es t) (hs:starEach (e :: es) X.env=(false,eval e X.env) :: starEach es X.env:=by rfl):PA X (e :: es) (fi te t):=by
 intro pos pins s σ H Q I h
 rw [hs]
 show wpAny _ _ (spliced ((false,eval e X.env) :: backTo pos (starEach es X.env))) _ _ s
 refine Calls.spliced_cons (aK (ha pins s σ H _ I h) fun u s1 ⟨x,H1,I1,r1,q1⟩=>?_)
 exact aK (hr pos pins s1 σ H1 _ I1 q1) fun us s2 ⟨xs,H2,I2,r2,q2⟩=>⟨x :: xs,H2,I2,.cons r1 r2,q2⟩
def u6 (t:TA):TE:=fun σ H Q=>t σ H fun xs H1=>xs.length<=sizeLine/\∀ p,H1 p=none->Q (.ref p) (upd H1 p (.tup xs))
def u7 (t:TA):TE:=fun σ H Q=>t σ H fun xs H1=>xs.length<=sizeLine/\∀ p,H1 p=none->Q (.ref p) (upd H1 p (.lst xs))
theorem dE {x1} (h:PA X es t):PE X (.Tuple es x1 pos) (u6 t):=by
 intro pins s σ H Q I hq
 refine wpAny_Tuple_spliced (aK (h pos pins s σ H _ I hq) fun us s1 ⟨xs,H1,I1,r,z,q⟩=>⟨by rw [<-r.length];exact z,?_⟩)
 have hf:H1 s1.heap.objs.size=none:=I1.av.fresh (Nat.le_refl _)
 refine⟨.ref s1.heap.objs.size,upd H1 s1.heap.objs.size (.tup xs),I1.laid (t':=s1.toks) (fun b u e=>Heap.get?_push_of_some _ e) (Nat.le_refl _) ?_,rfl,q _ hf⟩
 exact⟨z,us,r,⟨_,Heap.get?_push_size _ rfl,rfl,_,rfl,rfl⟩⟩
theorem b4 (h:PA X es t):PE X (.List es pos) (u7 t):=by
 intro pins s σ H Q I hq
 refine wpAny_List_spliced (aK (h pos pins s σ H _ I hq) fun us s1 ⟨xs,H1,I1,r,z,q⟩=>⟨by rw [<-r.length];exact z,?_⟩)
 have hf:H1 s1.heap.objs.size=none:=I1.av.fresh (Nat.le_refl _)
 refine⟨.ref s1.heap.objs.size,upd H1 s1.heap.objs.size (.lst xs),I1.laid (t':=s1.toks) (fun b u e=>Heap.get?_push_of_some _ e) (Nat.le_refl _) ?_,rfl,q _ hf⟩
 exact⟨z,us,0,r,Heap.get?_push_size _ rfl⟩
end
abbrev Sp:=List V->Hp->VK->XK->Prop
abbrev fV:=List Env->Hp->Shared->XK->Value->Shared->Prop
structure nj (P:Program) (w:World) (K:PySem.W.Frag) (mg:Str->Option Value) (base:Heap) (A:Around) (outer:List Env) (s:Shared) (H:Hp):Prop where
 frames:A.frames=some outer
 mod:Mod K mg base
 bs:∀ b o,base.get? b=some o->s.heap.get? b=some o/\H b=none
 jC:base.objs.size<=s.heap.objs.size
 d8:s.heap.FunFrames base outer
 me:∀ b ∈ fQ outer,H b=none
 av:bN P w H s.heap
 bare:AllBare s.gens
def CE (outer:List Env) (P:Program) (w:World) (H:Hp) (s:Shared) (Q:VK) (u:Value) (s':Shared):Prop :=
 ∃ v H',s'.os=s.os/\AllBare s'.gens/\Un (fQ outer) [] H H' s.heap s'.heap/\bN P w H' s'.heap/\RelV v u/\Q v H'
def CR (CX:fV) (outer:List Env) (P:Program) (w:World) (H:Hp) (s:Shared) (Q:VK) (E:XK) (r:Result) (s':Shared):Prop :=
 match r with
 | .ok (.ret u)=>CE outer P w H s Q u s'
 | .ok _=>False
 | .error e=>CX outer H s E e s'
structure bw (P:Program) (w:World) (K:PySem.W.Frag) (mg:Str->Option Value) (base:Heap) (CX:fV) (k:Nat) (f:Addr) (fd:FuncData) (ps:List Str) (sp:Sp):Prop where
 len:∀ vs H Q E,sp vs H Q E->vs.length=ps.length
 run:∀ (A:Around) (outer:List Env) (s:Shared) (H:Hp) (args:Args) (us:List Value) (vs:List V) (Q:VK) (E:XK),bY k A->nj P w K mg base A outer s H->BindsTo s fd args (ps.zip us)->Vals vs us->sp vs H Q E ->
  codeAny (model P w) A (.call (.ref f) args) (CR CX outer P w H s Q E) s
section
variable {X:Cx} {pins:List (Addr × Obj)} {σ : St} {H:Hp} {s s':Shared}
theorem Inv.u9 (I:Inv X pins σ H s):nj X.prog X.w X.K X.mg X.base X.A X.stack s H :=
 ⟨I.ok.frames,I.ok.mod,I.bs,Nat.le_trans I.ok.jC I.sz,I.stack,I.mf,I.av,I.bare⟩
theorem Inv.after {Q:VK} {u:Value} (I:Inv X pins σ H s) (h:CE X.stack X.prog X.w H s Q u s'):EP X pins σ Q u s':=by
 obtain⟨v,H',os,bare,un,av,r,q⟩:=h
 obtain⟨hh,g,d,t,os'⟩:=s'
 obtain rfl:os' = s.os:=os
 exact⟨v,H',I.call (h':=hh) (g':=g) (d':=d) (t':=t) (ch:=[]) un av bare (fun b z=>absurd z (by simp)),r,q⟩
end
def nq (sp:Sp) (dvs:List V) (E:XK) (t:TA):TE:=fun σ H Q=>t σ H fun vs H1=>sp (vs++dvs) H1 Q E
def Binds (K:PySem.W.Frag) (fd:FuncData) (ps:List Str) (ds:List Value):Prop :=
 ∀ (s:Shared) (us:List Value),K.In s.heap->(us++ds).length=ps.length->BindsTo s fd ⟨us,[]⟩ (ps.zip (us++ds))
theorem Binds.all {K:PySem.W.Frag} {fd:FuncData} {ps:List Str} (h:∀ us:List Value,us.length=ps.length->bindArgs fd ⟨us,[]⟩=pure (ps.zip us)):Binds K fd ps []:=fun s us _ hl=>by
 rw [List.append_nil] at hl ⊢
 exact .of_eq (h us hl)
def Passes (CX:fV) (X:Cx) (E:XK):Prop:=∀ (pins:List (Addr × Obj)) (σ : St) (H:Hp) (s:Shared) (e:Value) (s':Shared),Inv X pins σ H s->CX X.stack H s E e s'->X.xe e s'
section
variable {X:Cx} {CX:fV} {k:Nat} {f C:Addr} {fd:FuncData} {ps:List Str} {sp:Sp} {dvs:List V} {ds:List Value} {E:XK} {x m:Str} {p pos apos:Pos} {e o:Expr} {es:List Expr} {ta:TE} {t:TA}
theorem sU {pins:List (Addr × Obj)} {σ : St} {H:Hp} {s:Shared} {Q:VK} {us:List Value} {vs:List V} (F:bw X.prog X.w X.K X.mg X.base CX k f fd ps sp) (hr:bY k X.A) (hb:Binds X.K fd ps ds) (hd:Vals dvs ds) (hx:Passes CX X E)
  (I:Inv X pins σ H s) (r:Vals vs us) (h:sp (vs++dvs) H Q E):wpAny (model X.prog X.w) X.A (call (.ref f) us) (EP X pins σ Q) X.xe s:=by
 have r2:Vals (vs++dvs) (us++ds):=r.append hd
 have hl:(us++ds).length=ps.length:=by rw [<-r2.length];exact F.len _ _ _ _ h
 refine wpAny_call (codeAny_mono (F.run X.A X.stack s H ⟨us,[]⟩ (us++ds) (vs++dvs) Q E hr I.u9 (hb s us I.jD hl) r2 h) fun r s' hq=>?_)
 cases r with
 | error e=>exact hx pins σ H s e s' I hq
 | ok fl =>
  cases fl with
  | ret u=>exact I.after hq
  | next=>exact False.elim hq
  | brk=>exact False.elim hq
  | cont=>exact False.elim hq
theorem rA (F:bw X.prog X.w X.K X.mg X.base CX k f fd ps sp) (hr:bY k X.A) (hg:Gl X x) (hm:X.mg x=some (.ref f)) (hk:PySem.W.keepIn X.K (.ref f)=true) (hb:Binds X.K fd ps ds) (hd:Vals dvs ds) (hx:Passes CX X E)
  (ha:PA X (e :: es) t) (hdb:(x == ("__debug__" : Str))=false:=by decide) (he:starEach (e :: es) X.env=(false,eval e X.env) :: starEach es X.env:=by rfl) (hpl:(backTo pos (starEach es X.env)).any (·.1)=false:=by rfl) :
  PE X (.Call (.Name x p) (e :: es) [] pos) (nq sp dvs E t):=by
 intro pins s σ H Q I h
 refine wpAny_Call_Name_kw (mi I hg hm ?_ hdb)
 refine PySem.W.callWith_K (h₀:=X.base) I.ok.mod.sE hk (aK (ha pos pins s σ H _ I h) fun us s1 ⟨vs,H1,I1,r,q⟩=>⟨I1.jD,?_⟩) he hpl
 exact sU F hr hb hd hx I1 r q
end
section
variable {X:Cx} {CX:fV} {k:Nat} {f C:Addr} {fd:FuncData} {ps ks:List Str} {sp:Sp} {E:XK} {x m:Str} {p pos apos kpos:Pos} {e o:Expr} {es:List Expr} {kws:List Keyword} {te ta:TE} {t tk:TA} {nm:Option Str}
variable {g:List Value->List Value->List Value} {gV:List V->List V->List V}
end
structure aN (N P:List Str) (sc:Scope):Prop where
 kind:sc.kind=.function
 co:sc.isCoroutine=false
 gen:sc.isGenerator=false
 nd:N.Nodup
 pre:N.take P.length=P
 par:∀ x ∈ P,sc.names.lookup x=some .local\/sc.names.lookup x=some .cell
 sV:∀ y ∈ sc.names,y.2 ≠ .free
theorem jF {kindOf:Str->Option NameKind} {x:Str}:∀ {binds:List (Str × Value)} {m:Str->Option Value},(∀ v,(x,v) ∉ binds)->bindL kindOf binds m x=m x
 | [],_,_=>rfl
 | (n,v) :: r,m,h=>by
  unfold bindL
  rw [jF fun w hw=>h w (List.mem_cons_of_mem _ hw)]
  split
  ·have:x ≠ n:=by rintro rfl;exact h v List.mem_cons_self
   simp [this]
  ·rfl
theorem jG {kindOf:Str->Option NameKind} {x:Str}:∀ {binds:List (Str × Value)} {m:Str->Option Value},(∀ v,(x,v) ∉ binds)->bindC kindOf binds m x=m x
 | [],_,_=>rfl
 | (n,v) :: r,m,h=>by
  unfold bindC
  rw [jG fun w hw=>h w (List.mem_cons_of_mem _ hw)]
  split
  ·rfl
  ·have:x ≠ n:=by rintro rfl;exact h v List.mem_cons_self
   simp [this]
theorem jH {kindOf:Str->Option NameKind} {x:Str} {v:Value}:∀ {P:List Str} {vs:List Value} {i:Nat} {m:Str->Option Value},P.Nodup->P[i]? = some x->vs[i]? = some v->kindOf x=some .local ->
  bindL kindOf (P.zip vs) m x=some v
 | [],_,_,_,_,h,_,_=>by simp at h
 | _ :: _,[],_,_,_,_,h,_=>by simp at h
 | p :: P,w :: vs,0,m,nd,h1,h2,hk=>by
  simp at h1 h2;subst h1;subst h2
  show bindL kindOf ((p,w) :: P.zip vs) m p=_
  unfold bindL
  rw [jF fun v hv=>(List.nodup_cons.mp nd).1 (List.of_mem_zip hv).1,if_pos hk]
  simp
 | p :: P,w :: vs,i+1,m,nd,h1,h2,hk=>by
  show bindL kindOf ((p,w) :: P.zip vs) m x=_
  unfold bindL
  exact jH (i:=i) (List.nodup_cons.mp nd).2 (by simpa using h1) (by simpa using h2) hk
theorem jI {kindOf:Str->Option NameKind} {x:Str} {v:Value}:∀ {P:List Str} {vs:List Value} {i:Nat} {m:Str->Option Value},P.Nodup->P[i]? = some x->vs[i]? = some v->kindOf x ≠ some .local ->
  bindC kindOf (P.zip vs) m x=some v
 | [],_,_,_,_,h,_,_=>by simp at h
 | _ :: _,[],_,_,_,_,h,_=>by simp at h
 | p :: P,w :: vs,0,m,nd,h1,h2,hk=>by
  simp at h1 h2;subst h1;subst h2
  show bindC kindOf ((p,w) :: P.zip vs) m p=_
  unfold bindC
  rw [jG fun v hv=>(List.nodup_cons.mp nd).1 (List.of_mem_zip hv).1,if_neg hk]
  simp
 | p :: P,w :: vs,i+1,m,nd,h1,h2,hk=>by
  show bindC kindOf ((p,w) :: P.zip vs) m x=_
  unfold bindC
  exact jI (i:=i) (List.nodup_cons.mp nd).2 (by simpa using h1) (by simpa using h2) hk
def start (N:List Str) (vs:List V):St:=vs.map some++List.replicate (N.length - vs.length) none
def il (CX:fV) (P:Program) (w:World) (K:PySem.W.Frag) (mg:Str->Option Value) (base:Heap) (N:List Str) (qual:Str) (scope:Scope) (f:Addr) (cd:Value) (A:Around) (outer:List Env) (s:Shared) (H:Hp) (E:XK):Cx where
 prog:=P
 w:=w
 K:=K
 mg:=mg
 base:=base
 A:=A.deeper (envOfC qual scope s.heap.objs.size f cd)
 N:=N
 bO:=s
 kb:=H
 env:=envOfC qual scope s.heap.objs.size f cd
 outer:=outer
 stack:=envOfC qual scope s.heap.objs.size f cd :: outer
 ex:=[]
 calm:=true
 fn:=fun _=>true
 pn:=[]
 xe:=fun e s'=>wpAny (model P w) (A.deeper (envOfC qual scope s.heap.objs.size f cd)) (leaving (envOfC qual scope s.heap.objs.size f cd) e) (fun _ s''=>CX outer H s E e s'') (fun e' s''=>CX outer H s E e' s'') s'
theorem kr {sc:Scope} {n:Nat} {x:Str} (h:sc.names.lookup x=some .cell):∃ c,(cellsFrom n sc.names []).lookup x=some c:=by
 have q:=PySem.W.cellsFrom_some sc.names n [] (.inl h)
 exact Option.isSome_iff_exists.mp q
theorem oA {CX:fV} {P:Program} {w:World} {K:PySem.W.Frag} {mg:Str->Option Value} {base:Heap} {N ps:List Str} {qual:Str} {scope:Scope} {f:Addr} {cd:Value} {A:Around} {outer:List Env} {s s1:Shared} {H:Hp} {E:XK} {us:List Value} {vs:List V}
  (S:aN N ps scope) (hd:A.handled=none) (e0:nj P w K mg base A outer s H) (hl:vs.length=ps.length) (r:Vals vs us)
  (x:InCallC s s.heap.objs.size (bindL (envOfC qual scope s.heap.objs.size f cd).kindOf (ps.zip us) fun _=>none) (cellsFrom (s.heap.objs.size+1) scope.names []) (bindC (envOfC qual scope s.heap.objs.size f cd).kindOf (ps.zip us) fun _=>none) s1) :
  Inv (il CX P w K mg base N qual scope f cd A outer s H E) [] (start N vs) H s1:=by
 have hpl:ps.length<=N.length:=by have:=congrArg List.length S.pre;rw [List.length_take] at this;omega
 obtain⟨h1,tk,rfl,hk⟩:=x.done
 have noA:∀ b:Addr,b ∉ (il CX P w K mg base N qual scope f cd A outer s H E).ex:=fun b z=>absurd (show b ∈ ([]:List Addr) from z) (by simp)
 refine⟨⟨e0.mod,S.kind,rfl,rfl,Nat.le_refl _,fun y z c h1 h2=>?_,fun y hy=>?_,fun y c _ h=>?_,fun _=>hd,Around.frames_deeper e0.frames,.inr ⟨rfl,rfl⟩,fun b z=>absurd z (noA b),e0.bs,e0.jC,fun b _ _=>noA b,fun b z=>absurd z (noA b),e0.d8,e0.me⟩,
  rfl,e0.bare,Un.kept hk,⟨_,x.toInCall.ns,fun i y v h1 h2 h3=>?_⟩,fun y c h=>⟨_,x.cell y c h⟩,e0.av.fresh (Nat.le_refl _),fun y c h=>?_,fun p hp=>absurd (show p ∈ ([]:List (Addr × Obj)) from hp) (by simp),e0.av.kept hk,?_⟩
 ·exact name_of_addr x.apart (PySem.mem_of_lookup h1) (PySem.mem_of_lookup h2)
 ·have hy:scope.names.lookup y=some .cell\/scope.names.lookup y=some .free:=hy
  rcases hy with hy | hy
  ·exact kr hy
  ·exact absurd rfl (S.sV _ (PySem.mem_of_lookup hy))
 ·exact Nat.le_of_lt (x.above y c (PySem.mem_of_lookup h))
 ·have hi:i < vs.length:=by
   unfold start at h2
   by_cases hi:i < vs.length
   ·exact hi
   ·rw [List.getElem?_append_right (by simpa using hi)] at h2
    rw [List.getElem?_replicate] at h2
    split at h2 <;> cases h2
  have ha:vs[i]? = some v:=by
   unfold start at h2
   rw [List.getElem?_append_left (by simpa using hi),List.getElem?_map] at h2
   cases e:vs[i]? with
   | none=>rw [e] at h2;cases h2
   | some a=>rw [e] at h2;cases h2;rfl
  obtain⟨u,hu,rv⟩:=r.get ha
  have hp:ps[i]? = some y:=by
   rw [<-S.pre,List.getElem?_take_of_lt (by omega)];exact h1
  have ndP:ps.Nodup:=by rw [<-S.pre];exact S.nd.sublist (List.take_sublist _ _)
  refine⟨u,rv,?_⟩
  rcases S.par y (List.mem_of_getElem? hp) with k | k
  ·exact .inl ⟨k,jH ndP hp hu k⟩
  ·obtain⟨c,e⟩:=kr (n:=s.heap.objs.size+1) k
   refine .inr ⟨.inl k,c,e,?_⟩
   have q:=x.cell y c e
   rw [jI ndP hp hu (by show scope.names.lookup y ≠ _;rw [k];decide)] at q
   exact q
 ·exact e0.av.fresh (Nat.le_of_lt (x.above y c (PySem.mem_of_lookup h)))
 ·unfold start
  show _=N.length
  rw [List.length_append,List.length_map,List.length_replicate]
  omega
theorem qO {CX:fV} {P:Program} {w:World} {K:PySem.W.Frag} {mg:Str->Option Value} {base:Heap} {k:Nat} {f:Addr} {name qual:Str} {params:Arguments} {body:List Stmt} {scope:Scope} {dV kV doc pm cdv ct oc:Value} {an od:Option Addr}
  {osl:Array (Option Value)} {N ps:List Str} {sp:Sp} (lk:K.lookup f=some ⟨oc,od,.func (PySem.W.fnOf name qual params body scope dV kV doc pm an cdv ct),osl⟩) (hcd:PySem.W.codeIn K cdv qual=true) (S:aN N ps scope)
  (len:∀ vs H Q E,sp vs H Q E->vs.length=ps.length)
  (hbody:∀ (A:Around) (outer:List Env) (s:Shared) (H:Hp) (vs:List V) (Q:VK) (E:XK),bY k (A.deeper (envOfC qual scope s.heap.objs.size f cdv))->sp vs H Q E ->
   ∃ t,eF (il CX P w K mg base N qual scope f cdv A outer s H E) body t/\t { nx:=fun _ H'=>Q .bo H',rt:=Q } (start N vs) H) :
  bw P w K mg base CX (k+1) f (PySem.W.fnOf name qual params body scope dV kV doc pm an cdv ct) ps sp:=by
 refine⟨len,fun A outer s H args us vs Q E hr e0 hb r hsp=>?_⟩
 have hl:=len _ _ _ _ hsp
 have KX:K.In s.heap:=e0.mod.sE.keeps fun b o e=>(e0.bs b o e).1
 have lim:s.heap.NoLimit:=e0.mod.nolimit.keeps fun b o e=>(e0.bs b o e).1
 have hkind:∀ y ∈ ps.zip us,scope.names.lookup y.1=some .local\/(scope.names.lookup y.1=some .cell/\((cellsFrom (s.heap.objs.size+1) scope.names []).lookup y.1).isSome=true):=fun ⟨n,v⟩ hy=>by
  rcases S.par n (List.of_mem_zip hy).1 with q | q
  ·exact .inl q
  ·exact .inr ⟨q,PySem.W.cellsFrom_some _ _ _ (.inl q)⟩
 refine codeAny_call_function hr.depth (KX _ _ lk) rfl S.co S.gen rfl (PySem.W.codeRec_of KX hcd) (hb _ _ _ _ ?_)
 refine wpAny_newFunctionEnv_cells S.kind hkind fun env he s1 x=>?_
 subst he
 refine⟨lim.keeps x.toInCall.keep,codeAny_func ?_⟩
 obtain⟨t,ht,hq⟩:=hbody A outer s H vs Q E (hr.deeper _) hsp
 have I:Inv (il CX P w K mg base N qual scope f cdv A outer s H E) [] (start N vs) H s1:=oA S hr.hd e0 hl r x
 refine wpAny_mono (ht [] s1 (start N vs) H _ I hq) (fun fl s' hs=>?_) fun e s' hs=>hs
 have fin:∀ {σ':St} {H':Hp} {v:V} {u:Value},Inv (il CX P w K mg base N qual scope f cdv A outer s H E) [] σ' H' s'->RelV v u->Q v H'->CE outer P w H s Q u s' :=
  fun {σ' H' v u} J rv q=>⟨v,H',J.os,J.bare,J.base,J.av,rv,q⟩
 cases fl with
 | ret u =>
  obtain⟨v,σ',H',J,rv,q⟩:=hs
  exact fin J rv q
 | next =>
  obtain⟨σ',H',J,q⟩:=hs
  exact fin (v:=V.bo) (u:=Value.none) J rfl q
 | brk =>
  obtain⟨_,_,_,q⟩:=hs
  exact False.elim q
 | cont =>
  obtain⟨_,_,_,q⟩:=hs
  exact False.elim q
section
variable {X:Cx} {x:Str} {p pos:Pos} {e:Expr} {es:List Expr} {t:TA} {id T:String} {r:List V->Hp->VK->Prop}
def sW (r:List V->Hp->VK->Prop) (t:TA):TE:=fun σ H Q=>t σ H fun vs H1=>r vs H1 Q
theorem br (hc:cf X (.builtin id) r) (hg:Gl X x) (hm:X.mg x=none) (hv:bootBuiltins x=some (.builtin id)) (ha:PA X (e :: es) t) (hn:x ≠ "__name__" := by decide) (hdb:(x == ("__debug__" : Str))=false:=by decide)
  (he:starEach (e :: es) X.env=(false,eval e X.env) :: starEach es X.env:=by rfl) (hpl:(backTo pos (starEach es X.env)).any (·.1)=false:=by rfl):PE X (.Call (.Name x p) (e :: es) [] pos) (sW r t):=by
 intro pins s σ H Q I h
 refine wpAny_Call_Name_kw (fR I hg hm hv ?_ hn hdb)
 exact PyProof.Rows.callWith_builtin1 (aK (ha pos pins s σ H _ I h) fun us s1 ⟨vs,H1,I1,r1,q1⟩=>hc pins s1 σ H1 vs us Q I1 r1 q1) he hpl
theorem aT (hc:cf X (.type T) r) (hg:Gl X x) (hm:X.mg x=none) (hv:bootBuiltins x=some (.type T)) (ha:PA X (e :: es) t) (hn:x ≠ "__name__" := by decide) (hdb:(x == ("__debug__" : Str))=false:=by decide)
  (he:starEach (e :: es) X.env=(false,eval e X.env) :: starEach es X.env:=by rfl) (hpl:(backTo pos (starEach es X.env)).any (·.1)=false:=by rfl):PE X (.Call (.Name x p) (e :: es) [] pos) (sW r t):=by
 intro pins s σ H Q I h
 refine wpAny_Call_Name_kw (fR I hg hm hv ?_ hn hdb)
 exact PyProof.Rows.callWith_type1 (aK (ha pos pins s σ H _ I h) fun us s1 ⟨vs,H1,I1,r1,q1⟩=>hc pins s1 σ H1 vs us Q I1 r1 q1) he hpl
theorem nr (hc:cf X (.type T) r) (hg:Gl X x) (hm:X.mg x=none) (hv:bootBuiltins x=some (.type T)) (hn:x ≠ "__name__" := by decide) (hdb:(x == ("__debug__" : Str))=false:=by decide) :
  PE X (.Call (.Name x p) [] [] pos) (sW r kq):=by
 intro pins s σ H Q I h
 refine wpAny_Call_Name_kw (fR I hg hm hv ?_ hn hdb)
 exact PyProof.Rows.callWith_type0 (hc pins s σ H [] [] Q I .nil h)
end
end L2
namespace HT
open PySem PyProof.Rows
section
open PySem.SeqAt
open PySem.AutoSeq1 (wpAny_loadPart')
open PySem.MeetsSeq PySem.MeetsSeq2 PySem.MeetsSeq3
end
section
variable {prog:Program} {w:World} {A:Around} {E:Value->Shared->Prop} {s:Shared}
def aO (n d:Nat):Option Int->Nat
 | none=>d
 | some v=>if v < 0 then (v+(n:Int)).toNat else min v.toNat n
theorem sZ (n d:Nat) (hd:d<=n) (o:Option Int):aO n d o<=n:=by
 cases o with
 | none=>exact hd
 | some v =>
  show (if v < 0 then (v+(n:Int)).toNat else min v.toNat n)<=n
  by_cases hv:v < 0
  ·rw [if_pos hv];omega
  ·rw [if_neg hv];exact Nat.min_le_right _ _
theorem mr (v:Int) (n d:Nat):(if v < 0 then max (v+(n:Int)) 0 else min v (n:Int))=((aO n d (some v):Nat):Int):=by
 show (if v < 0 then max (v+(n:Int)) 0 else min v (n:Int))=(((if v < 0 then (v+(n:Int)).toNat else min v.toNat n):Nat):Int)
 by_cases hv:v < 0
 ·simp only [if_pos hv];omega
 ·simp only [if_neg hv];omega
theorem nu (lo hi:Option Int) (n:Nat):Builtin.Slice.sliceAdjust lo hi 1 (n:Int)=(((aO n 0 lo:Nat):Int),((aO n n hi:Nat):Int)):=by
 have h1:¬ ((1:Int) < 0):=by omega
 unfold Builtin.Slice.sliceAdjust
 simp only [h1,if_false]
 refine Prod.ext ?_ ?_
 ·cases lo with
  | none=>rfl
  | some v=>exact mr v n 0
 ·cases hi with
  | none=>rfl
  | some v=>exact mr v n n
theorem nv (i j:Nat):Builtin.Slice.slicePlaces (i:Int) (j:Int) 1=j - i:=by
 unfold Builtin.Slice.slicePlaces
 have h1:(1:Int) > 0:=by omega
 simp only [h1,if_true,Int.ediv_one]
 split <;> omega
theorem iP {v:Value} {o:Option Int} {Q:Option Int->Shared->Prop} (p:IsPart v o) (h:Q o s):wpAny (model prog w) A (Builtin.Slice.slicePartIndex v) Q E s:=by
 cases p with
 | none=>exact slicePart_none h
 | int i t=>exact slicePart_int h
theorem ei {sl:Addr} {vl vu:Value} {lo hi:Option Int} {n:Nat} {Q:Int × Int × Nat->Shared->Prop} (hs:s.heap.IsSliceOf sl vl vu .none) (pl:IsPart vl lo) (pu:IsPart vu hi)
  (h:Q (((aO n 0 lo:Nat):Int),1,aO n n hi - aO n 0 lo) s):wpAny (model prog w) A (Builtin.Slice.sliceApplied (.ref sl) (pure (n:Int))) Q E s:=by
 obtain⟨os,hos,hcs,hds⟩:=id hs
 unfold Builtin.Slice.sliceApplied Builtin.Slice.sliceFields
 refine wpAny_bind (wpAny_bind (wpAny_field hos hds (x:=vl) rfl (wpAny_bind (wpAny_field hos hds (x:=vu) rfl (wpAny_bind (wpAny_field hos hds (x:=.none) rfl (wpAny_pure ?_)))))))
 refine wpAny_bind (slicePart_none ?_)
 show wpAny _ _ (if ((1:Int) == 0)=true then _ else _) _ _ s
 rw [if_neg (by decide)]
 refine wpAny_bind (iP pl (wpAny_bind (iP pu (wpAny_bind (wpAny_pure ?_)))))
 show wpAny _ _ (match Builtin.Slice.sliceAdjust lo hi 1 (n:Int) with | (lo,hi)=>pure (lo,(1:Int),Builtin.Slice.slicePlaces lo hi 1)) _ _ s
 rw [nu lo hi n]
 show wpAny _ _ (pure (((aO n 0 lo:Nat):Int),(1:Int),Builtin.Slice.slicePlaces ((aO n 0 lo:Nat):Int) ((aO n n hi:Nat):Int) 1)) _ _ s
 rw [nv]
 exact wpAny_pure h
theorem pY (xs:Array Value) (i k:Nat):((List.range k).filterMap fun (m:Nat)=>xs[((i:Int)+(m:Int) * 1).toNat]?).toArray=((xs.toList.drop i).take k).toArray:=by
 have e:(fun (m:Nat)=>xs[((i:Int)+(m:Int) * 1).toNat]?)=fun m=>xs[i+m]?:=by
  funext m
  have:((i:Int)+(m:Int) * 1).toNat=i+m:=by omega
  rw [this]
 rw [e]
 have:=pick_run xs i k
 rw [List.filterMap_map] at this
 have e2:((fun x=>xs[x]?) ∘ fun x=>i+x)=fun m=>xs[i+m]?:=rfl
 rw [e2] at this
 rw [this]
theorem gS {t sl:Addr} {items:Array Value} {vl vu:Value} {lo hi:Option Int} {Q:Value->Shared->Prop} (ht:IsTup s.heap t items) (hs:s.heap.IsSliceOf sl vl vu .none) (pl:IsPart vl lo) (pu:IsPart vu hi)
  (hw:¬ (aO items.size 0 lo=0/\aO items.size items.size hi=items.size))
  (h:Q (.ref s.heap.objs.size) { s with heap:=s.heap.push { cls:=.type "tuple",data:=.seq ((items.toList.drop (aO items.size 0 lo)).take (aO items.size items.size hi - aO items.size 0 lo)).toArray } })
  (hsz:items.size<=sizeLine):wpAny (model prog w) A (getItem (.ref t) (.ref sl)) Q E s:=by
 have htake:sizeOk (.seq ((items.toList.drop (aO items.size 0 lo)).take (aO items.size items.size hi - aO items.size 0 lo)).toArray):=by
  show ((items.toList.drop (aO items.size 0 lo)).take (aO items.size items.size hi - aO items.size 0 lo)).toArray.size<=sizeLine
  rw [List.size_toArray,List.length_take,List.length_drop,Array.length_toList]
  omega
 have hj:aO items.size items.size hi<=items.size:=sZ _ _ (Nat.le_refl _) hi
 obtain⟨os,hos,hcs,hds⟩:=id hs
 have hTs:s.TypeIs (.ref sl) "slice" := ⟨os,hos,hcs⟩
 unfold getItem
 try with_reducible refine wpAny_holding ?_
 first | refine wpAny_bind (wpAny_pure ?_) | skip
 refine wpAny_bind (wpAny_sequenceKey ht.typeIs (by decide) ?_)
 refine wpAny_bind (wpAny_callSpecial?_slot (name:=Str.ofString "__getitem__") ht.typeIs PyProof.Rows.slot_tuple_getitem
  (wpAny_call_entry PyProof.Rows.slot_tuple_getitem ht.typeIs entry_tuple_getitem ?_ (args_tuple_getitem _ _)))
 show wpAny _ _ (Builtin.Tuple.tupleItemsOf (.ref t) >>= _) _ _ s
 refine wpAny_bind (tupleItemsOf_ ht ?_)
 refine wpAny_bind (wpAny_typeOf hTs ?_)
 rw [if_pos (by decide)]
 refine wpAny_bind (ei hs pl pu ?_)
 have hno:¬ ((((aO items.size 0 lo:Nat):Int) == 0 && (1:Int) == 1 && (aO items.size items.size hi - aO items.size 0 lo) == items.size)=true):=by
  intro q
  rw [Bool.and_eq_true,Bool.and_eq_true] at q
  have q1:((aO items.size 0 lo:Nat):Int)=0:=eq_of_beq q.1.1
  have q2:aO items.size items.size hi - aO items.size 0 lo=items.size:=eq_of_beq q.2
  exact hw ⟨by omega,by omega⟩
 show wpAny _ _ (if (((aO items.size 0 lo:Nat):Int) == 0 && (1:Int) == 1 && (aO items.size items.size hi - aO items.size 0 lo) == items.size)=true then _ else _) _ _ s
 rw [if_neg hno,pY]
 first
  | exact wpAny_bind (m:=Builtin.Tuple.tupleExact _) (wpAny_newObj_type (wpAny_pure ⟨_,rfl,wpAny_pure h⟩) htake)
  | exact wpAny_bind (m:=Builtin.Tuple.tupleExact _) (wpAny_newObj_type (wpAny_bind (wpAny_pure (wpAny_pure ⟨_,rfl,wpAny_pure h⟩))) htake)
  | exact wpAny_bind (wpAny_bind (m:=Builtin.Tuple.tupleExact _) (wpAny_newObj_type (wpAny_pure (wpAny_pure ⟨_,rfl,wpAny_pure h⟩)) htake))
  | exact wpAny_bind (wpAny_bind (m:=Builtin.Tuple.tupleExact _) (wpAny_newObj_type (wpAny_pure ⟨_,rfl,wpAny_pure h⟩) htake))
end
end HT
namespace L2
open PySem PySem.Spec PyProof.Rows
abbrev TO:=St->Hp->(Option Int->Hp->Prop)->Prop
def PO (X:Cx) (e:Option Expr) (t:TO):Prop :=
 ∀ (pins:List (Addr × Obj)) (s:Shared) (σ : St) (H:Hp) (Q:Option Int->Hp->Prop),Inv X pins σ H s->t σ H Q ->
  wpAny (model X.prog X.w) X.A (evalPart e X.env) (fun u s'=>∃ o H',Inv X pins σ H' s'/\IsPart u o/\Q o H') X.xe s
def rB:TO:=fun _ H Q=>Q none H
inductive pZ (Q:(Option Int->Hp->Prop)) (x:V) (H1:Hp):Prop
 | mk (i:_) (_:x=.int i) (_:Q (some i) H1)
def ur (t:TE):TO:=fun σ H Q=>t σ H fun x H1=>pZ Q x H1
theorem intsAre_of {ns:List Int}:∀ {us:List Value},Vals (ns.map V.int) us->IntsAre us ns:=by
 induction ns with
 | nil=>intro us r;rw [List.map_nil] at r;cases r;exact .nil
 | cons n ns ih =>
  intro us r
  rw [List.map_cons] at r
  cases r with
  | cons r1 r2 =>
   obtain⟨t,e⟩:=r1
   subst e
   exact .cons n t (ih r2)
section
variable {X:Cx} {e:Expr} {te:TE} {lo hi:Option Expr} {tl th:TO} {pos p2:Pos}
theorem mw:PO X none rB:=by
 intro pins s σ H Q I h
 rw [evalPart_none]
 exact wpAny_pure ⟨none,H,I,.none,h⟩
theorem mB (h:PE X e te):PO X (some e) (ur te):=by
 intro pins s σ H Q I hw
 rw [evalPart_some]
 refine aK (h pins s σ H _ I hw) fun u s1 ⟨x,H1,I1,r1,q1⟩=>?_
 obtain⟨i,rfl,q⟩:=q1
 obtain⟨t,rfl⟩:=r1
 exact⟨some i,H1,I1,.int i t,q⟩
def tf (X:Cx) (r:V->Option Int->Option Int->Hp->VK->Prop):Prop :=
 ∀ (pins:List (Addr × Obj)) (s:Shared) (σ : St) (H:Hp) (x:V) (v vl vu:Value) (lo hi:Option Int) (sl:Addr) (Q:VK),Inv X pins σ H s->RelV x v->s.heap.IsSliceOf sl vl vu .none->IsPart vl lo->IsPart vu hi->r x lo hi H Q ->
  ∃ T id,typeLookup (.type T) "__getitem__" = pure (some (.builtin id))/\s.TypeIs v T/\wpAny (model X.prog X.w) X.A (getItem v (.ref sl)) (EP X pins σ Q) X.xe s
def vp (r:V->Option Int->Option Int->Hp->VK->Prop) (te:TE) (tl th:TO):TE:=fun σ H Q=>te σ H fun x H1=>tl σ H1 fun l H2=>th σ H2 fun u H3=>r x l u H3 Q
theorem ku {r:V->Option Int->Option Int->Hp->VK->Prop} (hr:tf X r) (he:PE X e te) (hl:PO X lo tl) (hu:PO X hi th):PE X (.Subscript e (.Slice lo hi none p2) pos) (vp r te tl th):=by
 intro pins s σ H Q I h
 refine Subscript_ (aK (he pins s σ H _ I h) fun v s1 ⟨x,H1,I1,r1,q1⟩=>?_)
 refine wpAny_Slice (aK (hl pins s1 σ H1 _ I1 q1) fun vl s2 ⟨l,H2,I2,pl,q2⟩=>aK (hu pins s2 σ H2 _ I2 q2) fun vu s3 ⟨u,H3,I3,pu,q3⟩=>?_)
 rw [evalPart_none]
 refine wpAny_pure ?_
 have I4:Inv X pins σ H3 { s3 with heap:=s3.heap.push { cls:=.type "slice",data:=.fields #[vl,vu,.none] } }:=I3.kept (t':=s3.toks) fun b ob q=>Heap.get?_push_of_some _ q
 obtain⟨T,id,hT,ht,hg⟩:=hr pins { s3 with heap:=s3.heap.push { cls:=.type "slice",data:=.fields #[vl,vu,.none] } } σ H3 x v vl vu l u s3.heap.objs.size Q I4 r1 (Heap.IsSliceOf.new ..) pl pu q3
 show wpAny (model X.prog X.w) X.A (subscriptTail e (.Slice lo hi none p2) v (.ref s3.heap.objs.size)) (EP X pins σ Q) X.xe { s3 with heap:=s3.heap.push { cls:=.type "slice",data:=.fields #[vl,vu,.none] } }
 exact tail_any (ops:=[.ref s3.heap.objs.size,v]) ht hT hg (by with_unfolding_all rfl)
def ip (xs:List V) (lo hi:Option Int):List V:=(xs.drop (HT.aO xs.length 0 lo)).take (HT.aO xs.length xs.length hi - HT.aO xs.length 0 lo)
theorem lL (xs:List V) (lo hi:Option Int):(ip xs lo hi).length<=xs.length:=by
 unfold ip
 rw [List.length_take,List.length_drop]
 omega
inductive va (K:PySem.W.Frag) (x:V) (lo:Option Int) (hi:Option Int) (H:Hp) (Q:VK):Prop
 | mk (a xs:_) (_:x=.ref a) (_:ay K H a xs) (_:¬ (HT.aO xs.length 0 lo=0/\HT.aO xs.length xs.length hi=xs.length)) (_:∀ p,H p=none->Q (.ref p) (upd H p (.tup (ip xs lo hi))))
theorem tj:tf X (va X.K):=by
 intro pins s σ H x v vl vu lo hi sl Q I rx hs pl pu h
 obtain⟨a,xs,rfl,hx,hw,q⟩:=h
 cases rx
 obtain⟨its,r,ht,hz⟩:=I.tuple hx
 have hlen:its.toArray.size=xs.length:=by rw [List.size_toArray];exact r.length.symm
 refine⟨"tuple",_,PyProof.Rows.slot_tuple_getitem.lookup,ht.typeIs,?_⟩
 refine HT.gS ht hs pl pu (by rw [hlen];exact hw) ?_ (by rw [hlen];exact hz)
 rw [hlen]
 refine⟨.ref s.heap.objs.size,_,I.laid (t':=s.toks) (o:=.tup (ip xs lo hi)) (fun b ob q=>Heap.get?_push_of_some _ q) (Nat.le_refl _) ?_,rfl,q _ (I.av.fresh (Nat.le_refl _))⟩
 exact⟨Nat.le_trans (lL xs lo hi) hz,_,(r.drop (HT.aO xs.length 0 lo)).take (HT.aO xs.length xs.length hi - HT.aO xs.length 0 lo),⟨_,Heap.get?_push_size _ rfl,rfl,_,rfl,rfl⟩⟩
end
def iQ (n:Nat) (i:Int):Option Nat:=if 0<=i then (if i < n then some i.toNat else none) else if -(n:Int)<=i then some (i+n).toNat else none
def dq {α : Type} (xs:List α) (i:Int):Option α:=(iQ xs.length i).bind fun j=>xs[j]?
theorem mC {n:Nat} {i:Int} {j:Nat} (h:iQ n i=some j):seqIndex? i n=some j/\j < n/\-(n:Int)<=i/\i < n:=by
 unfold iQ at h
 by_cases h0:0<=i
 ·rw [if_pos h0] at h
  by_cases h1:i < n
  ·rw [if_pos h1] at h
   have e:i.toNat=j:=Option.some.inj h
   exact⟨by rw [seqIndex_of h0 h1,e],by omega,by omega,h1⟩
  ·rw [if_neg h1] at h;cases h
 ·rw [if_neg h0] at h
  by_cases h1:-(n:Int)<=i
  ·rw [if_pos h1] at h
   have e:(i+n).toNat=j:=Option.some.inj h
   exact⟨by rw [seqIndex_neg (by omega) h1,e],by omega,h1,by omega⟩
  ·rw [if_neg h1] at h;cases h
theorem jg {α : Type} {xs:List α} {i:Int} {v:α} (h:dq xs i=some v):∃ j,seqIndex? i xs.length=some j/\xs[j]? = some v/\j < xs.length/\-(xs.length:Int)<=i/\i < xs.length:=by
 unfold dq at h
 cases e:iQ xs.length i with
 | none=>rw [e] at h;cases h
 | some j =>
  rw [e] at h
  obtain⟨h1,h2,h3,h4⟩:=mC e
  exact⟨j,h1,h,h2,h3,h4⟩
theorem bg {α : Type} {xs:List α} {j:Nat} {v:α} (h:xs[j]? = some v):dq xs (j:Int)=some v:=by
 have hj:j < xs.length:=(List.getElem?_eq_some_iff.mp h).1
 have e:iQ xs.length (j:Int)=some j:=by
  unfold iQ
  rw [if_pos (by omega),if_pos (by omega)];simp
 unfold dq;rw [e];exact h
def mD (b:Expr):Prop:=∀ o i,subscripted b false o i=operate [o,i] (getItem o i)
def oB (X:Cx) (r:R2):Prop :=
 ∀ (value slice:Expr) (pins:List (Addr × Obj)) (s:Shared) (σ : St) (H:Hp) (x y:V) (v u:Value) (Q:VK),Inv X pins σ H s->RelV x v->RelV y u->r x y H Q ->
  subscripted slice false v u=operate [v,u] (getItem v u)->wpAny (model X.prog X.w) X.A (subscriptTail value slice v u) (EP X pins σ Q) X.xe s
def tm (X:Cx) (id:String) (r:V->List V->Hp->VK->Prop):Prop :=
 ∀ (pins:List (Addr × Obj)) (s:Shared) (σ : St) (H:Hp) (x:V) (xs:List V) (v:Value) (us:List Value) (Q:VK),Inv X pins σ H s->RelV x v->Vals xs us->r x xs H Q ->
  wpAny (model X.prog X.w) X.A (call (.builtin id) (v :: us)) (EP X pins σ Q) X.xe s
section
variable {X:Cx} {a b:Expr} {ta tb:TE} {pos:Pos}
theorem uu {r:R2} (hr:oB X r) (ha:PE X a ta) (hb:PE X b tb) (hs:mD b):PE X (.Subscript a b pos) (ox r ta tb):=by
 intro pins s σ H Q I h
 exact Subscript_ (pT ha hb I h fun v u s2 x y H2 I2 rx ry q=>hr a b pins s2 σ H2 x y v u Q I2 rx ry q (hs _ _))
inductive vb (K:PySem.W.Frag) (x:V) (y:V) (H:Hp) (Q:VK):Prop
 | mk (p xs i v:_) (_:x=.ref p) (_:y=.int i) (_:ax K H p xs) (_:dq xs i=some v) (_:Q v H)
inductive vc (K:PySem.W.Frag) (x:V) (y:V) (H:Hp) (Q:VK):Prop
 | mk (p xs i v:_) (_:x=.ref p) (_:y=.int i) (_:ay K H p xs) (_:dq xs i=some v) (_:Q v H)
inductive vd  (x:V) (y:V) (H:Hp) (Q:VK):Prop
 | mk (z i c:_) (_:x=.str z) (_:y=.int i) (_:z.length<=sizeLine) (_:dq z.cps.toList i=some c) (_:Q (.str ⟨#[c]⟩) H)
theorem bD:oB X (vb X.K):=by
 intro value slice pins s σ H x y v u Q I rx ry h hs
 obtain⟨p,xs,i,z,rfl,rfl,hq,he,q⟩:=h
 cases rx
 obtain⟨t,rfl⟩:=ry
 obtain⟨its,r,pl,hz⟩:=I.list hq
 obtain⟨j,h1,h2,h3,h4,h5⟩:=jg he
 obtain⟨w,ew,rw'⟩:=r.get h2
 have hl:=r.length
 have hn:=eX
 have fin:EP X pins σ Q w s:=⟨z,H,I,rw',q⟩
 by_cases h0:0<=i
 ·have hj:i.toNat=j:=by
   rw [seqIndex_of h0 h5] at h1
   exact Option.some.inj h1
  exact item_listR pl.isList h0 (by omega) (by rw [hj];simpa using ew) fin hs
 ·have hj:(i+(its.toArray.size:Int)).toNat=j:=by
   rw [seqIndex_neg (by omega) h4] at h1
   rw [List.size_toArray,<-hl]
   exact Option.some.inj h1
  exact subscriptTail_builtinR (x:=w) pl.isList.typeIs slot_list_getitem.lookup
   (wpAny_getItem_list_neg (Q:=fun r s'=>r=w/\EP X pins σ Q r s') pl.isList (by omega) (by rw [List.size_toArray] <;> omega) (by omega) (by rw [hj];simpa using ew) ⟨rfl,fin⟩) hs
theorem bF:oB X (vc X.K):=by
 intro value slice pins s σ H x y v u Q I rx ry h hs
 obtain⟨p,xs,i,z,rfl,rfl,hq,he,q⟩:=h
 cases rx
 obtain⟨t,rfl⟩:=ry
 obtain⟨its,r,pl,hz⟩:=I.tuple hq
 obtain⟨j,h1,h2,h3,h4,h5⟩:=jg he
 obtain⟨w,ew,rw'⟩:=r.get h2
 have hl:=r.length
 have hn:=eX
 have fin:EP X pins σ Q w s:=⟨z,H,I,rw',q⟩
 exact subscriptTail_builtinR (x:=w) pl.typeIs slot_tuple_getitem.lookup
  (getItem_tuple (j:=j) (Q:=fun r s'=>r=w/\EP X pins σ Q r s') pl (by omega) (by omega) (by rw [List.size_toArray,<-hl];exact h1) (by simpa using ew) ⟨rfl,fin⟩) hs
theorem iR:oB X vd:=by
  intro value slice pins s σ H x y v u Q I rx ry h hs
  obtain⟨z,i,c,rfl,rfl,hz,he,q⟩:=h
  obtain⟨t,rfl⟩:=rx
  obtain⟨t',rfl⟩:=ry
  obtain⟨j,h1,h2,h3,h4,h5⟩:=jg he
  have hl:z.cps.toList.length=z.length:=by simp [Str.length]
  rw [hl] at h1 h4 h5
  have hn:=eX
  exact tail_any (typeIs_str s z t) slot_str_getitem.lookup (getItem_str (c:=c) (by
    have e1:decide (i < -(2 ^ 63:Int))=false:=decide_eq_false (by omega)
    have e2:decide (i >= 2 ^ 63)=false:=decide_eq_false (by omega)
    rw [e1,e2,Bool.or_false]) (by rw [h1];simpa using h2) ⟨.str ⟨#[c]⟩,H,I.tok _,⟨_,rfl⟩,q⟩) hs
theorem ny (its:List Value) (n j:Nat) (u:Value):Obj.mapSeq (·.setIfInBounds j u) { cls:=.type "list",data:=.seq its.toArray n } = { cls:=.type "list",data:=.seq (its.set j u).toArray n }:=by
 simp [Obj.mapSeq]
theorem Inv.lst {pins:List (Addr × Obj)} {σ : St} {H:Hp} {s:Shared} {p:Addr} {xs:List V} (I:Inv X pins σ H s) (h:H p=some (.lst xs)) :
  ∃ (its:List Value) (n:Nat),Vals xs its/\s.heap.get? p=some { cls:=.type "list",data:=.seq its.toArray n }/\xs.length<=sizeLine:=by
 obtain⟨z,its,n,r,e⟩:=I.av p _ h
 exact⟨its,n,r,e,z⟩
theorem Inv.tq {pins:List (Addr × Obj)} {σ : St} {H:Hp} {s:Shared} {p:Addr} {xs ys:List V} {its its':List Value} {n n':Nat} {f:Obj->Obj} (I:Inv X pins σ H s) (h:H p=some (.lst xs))
  (ho:s.heap.get? p=some { cls:=.type "list",data:=.seq its.toArray n }) (hf:f { cls:=.type "list",data:=.seq its.toArray n } = { cls:=.type "list",data:=.seq its'.toArray n' }) (r:Vals ys its') (hz:ys.length<=sizeLine) (t:Nat) :
  Inv X pins σ (upd H p (.lst ys)) { s with heap:=s.heap.update p f,toks:=t }:=by
 have e:(s.heap.update p f).get? p=some { cls:=.type "list",data:=.seq its'.toArray n' }:=by
  rw [Heap.get?_update_self f ho (by rw [hf] <;> rfl),hf]
 refine I.write (x:=p) (e:=p) (by rw [h];trivial) (.inl rfl) (fun b u hb q=>(Heap.get?_update_other _ _ (Ne.symm hb)).trans q) ⟨_,e⟩ ?_
 exact⟨hz,its',n',r,e⟩
inductive uv  (o:V) (i:V) (v:V) (H:Hp) (Q:(Hp->Prop)):Prop
 | mk (p xs k j:_) (_:o=.ref p) (_:i=.int k) (_:H p=some (.lst xs)) (_:iQ xs.length k=some j) (_:Q (upd H p (.lst (xs.set j v))))
theorem set_list:sN X uv:=by
 intro pins s σ H o i v ov iv u Q I ro ri rv h
 obtain⟨p,xs,k,j,rfl,rfl,hp,hj,q⟩:=h
 cases ro
 obtain⟨t,rfl⟩:=ri
 obtain⟨its,n,r,ho,hz⟩:=I.lst hp
 obtain⟨h1,h2,h3,h4⟩:=mC hj
 have hl:=r.length
 have hn:=eX
 have I':Inv X pins σ (upd H p (.lst (xs.set j v))) { s with heap:=s.heap.update p (Obj.mapSeq (·.setIfInBounds j u)) } :=
  I.tq hp ho (ny its n j u) (r.set rv j) (by rw [List.length_set];exact hz) s.toks
 by_cases h0:0<=k
 ·have hk:k.toNat=j:=by
   rw [seqIndex_of h0 h4] at h1
   exact Option.some.inj h1
  exact PySem.W.ki_setAt ho h0 (by omega) (by rw [List.size_toArray,<-hl];exact h4) (by rw [hk];exact⟨_,I',q⟩)
 ·have hk:(k+(its.toArray.size:Int)).toNat=j:=by
   rw [seqIndex_neg (by omega) h3] at h1
   rw [List.size_toArray,<-hl]
   exact Option.some.inj h1
  exact PySem.W.ki_setBack ho (by omega) (by rw [List.size_toArray,<-hl];exact h3) (by omega) (by rw [hk];exact⟨_,I',q⟩)
def dB:V->Bool
 | .bo=>true
 | .bl _=>true
 | .int _=>true
 | .str _=>true
 | _=>false
def jJ:V->V->Bool
 | .bo,.bo=>true
 | .bl a,.bl b=>a == b
 | .bl a,.int b=>(if a then 1 else 0) == b
 | .int a,.bl b=>a == (if b then 1 else 0)
 | .int a,.int b=>a == b
 | .str a,.str b=>a == b
 | _,_=>false
theorem tu {A:Around} {s:Shared} {y x:V} {u v:Value} (ry:RelV y u) (rx:RelV x v) (fy:dB y=true) (fx:dB x=true):SeqAt.EqAt A s u v (jJ y x):=by
 cases y with
 | bo =>
  cases ry
  cases x with
  | bo=>cases rx;exact SeqAt.EqAt.same _
  | bl b=>cases rx;exact SeqAt.EqAt.none_bool b
  | int b=>obtain⟨t,rfl⟩:=rx;exact SeqAt.EqAt.none_int b t
  | str b=>obtain⟨t,rfl⟩:=rx;exact SeqAt.EqAt.none_str b t
  | _=>exact absurd (show false=true from fx) Bool.false_ne_true
 | bl a =>
  cases ry
  cases x with
  | bo=>cases rx;exact SeqAt.EqAt.bool_none a
  | bl b=>cases rx;exact SeqAt.EqAt.bool_bool a b
  | int b=>obtain⟨t,rfl⟩:=rx;exact SeqAt.EqAt.bool_int a b t
  | str b=>obtain⟨t,rfl⟩:=rx;exact SeqAt.EqAt.bool_str a b t
  | _=>exact absurd (show false=true from fx) Bool.false_ne_true
 | int a =>
  obtain⟨t',rfl⟩:=ry
  cases x with
  | bo=>cases rx;exact SeqAt.EqAt.int_none a t'
  | bl b=>cases rx;exact SeqAt.EqAt.int_bool a t' b
  | int b=>obtain⟨t,rfl⟩:=rx;exact SeqAt.EqAt.int_int a t' b t
  | str b=>obtain⟨t,rfl⟩:=rx;exact SeqAt.EqAt.int_str a t' b t
  | _=>exact absurd (show false=true from fx) Bool.false_ne_true
 | str a =>
  obtain⟨t',rfl⟩:=ry
  cases x with
  | bo=>cases rx;exact SeqAt.EqAt.str_none a t'
  | bl b=>cases rx;exact SeqAt.EqAt.str_bool a t' b
  | int b=>obtain⟨t,rfl⟩:=rx;exact SeqAt.EqAt.str_int a t' b t
  | str b=>obtain⟨t,rfl⟩:=rx;exact SeqAt.EqAt.str_str a t' b t
  | _=>exact absurd (show false=true from fx) Bool.false_ne_true
 | _=>exact absurd (show false=true from fy) Bool.false_ne_true
def iS (x:V) (u:Value):Bool:=match u with
 | .none=>jJ .bo x
 | .bool b=>jJ (.bl b) x
 | .int i _=>jJ (.int i) x
 | .str z _=>jJ (.str z) x
 | _=>false
theorem oC {x y:V} {u:Value} (r:RelV y u) (f:dB y=true):iS x u=jJ y x:=by
 cases y with
 | bo=>cases r;rfl
 | bl b=>cases r;rfl
 | int i=>obtain⟨t,rfl⟩:=r;rfl
 | str z=>obtain⟨t,rfl⟩:=r;rfl
 | _=>exact absurd (show false=true from f) Bool.false_ne_true
theorem jh {x:V}:∀ {xs:List V} {us:List Value},Vals xs us->xs.all dB=true->us.any (iS x)=xs.any fun y=>jJ y x
 | _,_,.nil,_=>rfl
 | y :: xs,u :: us,.cons r t,f=>by
  rw [List.all_cons,Bool.and_eq_true] at f
  rw [List.any_cons,List.any_cons,oC r f.1,jh t f.2]
theorem iq {A:Around} {s:Shared} {x:V} {v:Value} (rx:RelV x v) (fx:dB x=true):∀ {xs:List V} {us:List Value},Vals xs us->xs.all dB=true->∀ u ∈ us,SeqAt.EqAt A s u v (iS x u)
 | _,_,.nil,_=>fun u hu=>by cases hu
 | y :: xs,u :: us,.cons r t,f=>fun u' hu=>by
  rw [List.all_cons,Bool.and_eq_true] at f
  rcases List.mem_cons.mp hu with rfl | hu
  ·rw [oC r f.1];exact tu r rx f.1 fx
  ·exact iq rx fx t f.2 u' hu
def mE (x:V) (xs:List V):Bool:=xs.any fun y=>jJ y x
inductive vq (K:PySem.W.Frag) (neg:Bool) (x:V) (y:V) (H:Hp) (Q:VK):Prop
 | mk (p xs:_) (_:y=.ref p) (_:(ax K H p xs\/ay K H p xs)) (_:dB x=true) (_:xs.all dB=true) (_:Q (.bl (if neg then !mE x xs else mE x xs)) H)
theorem fW:cv X (compareOp .NotIn) (vq X.K true):=by
 intro pins s σ H x y v u Q I rx ry h
 obtain⟨p,xs,rfl,hq,fx,fs,q⟩:=h
 cases ry
 rcases hq with hq | hq
 ·obtain⟨its,r,pl,hz⟩:=I.list hq
  refine SeqAt.notIn_listAt (iS x) pl.isList (fun w hw=>iq rx fx r fs w (by simpa using hw)) ⟨.bl _,H,I,rfl,?_⟩
  rw [show its.toArray.any (iS x)=its.any (iS x) by simp,jh r fs]
  exact q
 ·obtain⟨its,r,pl,hz⟩:=I.tuple hq
  refine SeqAt.notIn_tupleAt (iS x) pl (fun w hw=>iq rx fx r fs w (by simpa using hw)) ⟨.bl _,H,I,rfl,?_⟩
  rw [show its.toArray.any (iS x)=its.any (iS x) by simp,jh r fs]
  exact q
theorem bG:cf X (.builtin "len") (fun xs H Q=>∃ p ys,xs = [.ref p]/\(ax X.K H p ys\/ay X.K H p ys)/\Q (.int ys.length) H):=by
 intro pins s σ H xs us Q I r h
 obtain⟨p,ys,rfl,hq,q⟩:=h
 obtain⟨u,rfl,rx⟩:=vals1 r
 cases rx
 have hn:=eX
 rcases hq with hq | hq
 ·obtain⟨its,r',pl,hz⟩:=I.list hq
  have hlen:=r'.length
  exact Calls.call_len_list pl.isList (by simp only [List.size_toArray] <;> omega) ⟨.int ys.length,H,I.tok _,⟨s.toks+1,by rw [List.size_toArray,hlen]⟩,q⟩
 ·obtain⟨its,r',pl,hz⟩:=I.tuple hq
  have hlen:=r'.length
  exact len_tuple pl (by simp only [List.size_toArray] <;> omega) ⟨.int ys.length,H,I.tok _,⟨s.toks+1,by rw [List.size_toArray,hlen]⟩,q⟩
theorem fX:cf X (.type "list") (fun xs H Q=>∃ p ys,xs = [.ref p]/\(ax X.K H p ys\/ay X.K H p ys)/\∀ l,H l=none->Q (.ref l) (upd H l (.lst ys))):=by
 intro pins s σ H xs us Q I r h
 obtain⟨p,ys,rfl,hq,q⟩:=h
 obtain⟨u,rfl,rx⟩:=vals1 r
 cases rx
 have fin:∀ (its:List Value),Vals ys its->ys.length<=sizeLine->∀ (h':Heap) (c':Nat),(∀ b o',s.heap.get? b=some o'->h'.get? b=some o') ->
   h'.get? s.heap.objs.size=some { cls:=.type "list",dict:=none,data:=.seq its.toArray c',slots:=#[] }->EP X pins σ Q (.ref s.heap.objs.size) { s with heap:=h' }:=fun its r' hz h' c' kp e =>
  ⟨.ref s.heap.objs.size,_,I.laid (t':=s.toks) kp (Nat.le_refl _) (show aU X.prog X.w _ h' _ (.lst ys) from ⟨hz,its,c',r',e⟩),rfl,q _ (I.av.fresh (Nat.le_refl _))⟩
 rcases hq with hq | hq
 ·obtain⟨its,r',pl,hz⟩:=I.list hq
  have hlen:=r'.length
  obtain⟨o,ho,hc,n,hd⟩:=pl.isList
  exact call_list_seq p (.inl rfl) ho hc hd (fun h' c' kp e=>fin its r' hz h' c' kp e) (by simp only [List.size_toArray] <;> omega)
 ·obtain⟨its,r',pl,hz⟩:=I.tuple hq
  have hlen:=r'.length
  obtain⟨o,ho,hc,n,hd⟩:=pl
  exact call_list_seq p (.inr rfl) ho hc hd (fun h' c' kp e=>fin its r' hz h' c' kp e) (by simp only [List.size_toArray] <;> omega)
theorem aP:cf X (.type "tuple") (fun xs H Q=>∃ p ys,xs = [.ref p]/\((ax X.K H p ys/\∀ l,H l=none->Q (.ref l) (upd H l (.tup ys)))\/(ay X.K H p ys/\Q (.ref p) H))):=by
 intro pins s σ H xs us Q I r h
 obtain⟨p,ys,rfl,h⟩:=h
 obtain⟨u,rfl,rx⟩:=vals1 r
 cases rx
 rcases h with ⟨hq,q⟩ | ⟨hq,q⟩
 ·obtain⟨its,r',pl,hz⟩:=I.list hq
  have hlen:=r'.length
  refine call_tuple_list pl.isList (fun h' kp=>?_) (by simp only [List.size_toArray] <;> omega)
  have I1:Inv X pins σ H { s with heap:=h' }:=I.kept (t':=s.toks) kp
  have I2:Inv X pins σ (upd H h'.objs.size (.tup ys)) { s with heap:=h'.push { cls:=.type "tuple",data:=.seq its.toArray } } :=
   I1.laid (t':=s.toks) (fun b o e=>Heap.get?_push_of_some _ e) (Nat.le_refl _) (show aU X.prog X.w _ _ _ (.tup ys) from ⟨hz,its,r',⟨_,Heap.get?_push_size _ rfl,rfl,_,rfl,rfl⟩⟩)
  exact⟨.ref h'.objs.size,_,I2,rfl,q _ (I1.av.fresh (Nat.le_refl _))⟩
 ·obtain⟨its,r',pl,hz⟩:=I.tuple hq
  exact call_tuple_same pl ⟨.ref p,H,I,rfl,q⟩
def tw (K:PySem.W.Frag) (T:String) (x:V) (H:Hp):Prop:=match x with
 | .str _=>T = "str"
 | .int _=>T = "int"
 | .ref p=>(T = "list" /\ ∃ xs,ax K H p xs)\/(T = "tuple" /\ ∃ o,K.lookup p=some o/\o.cls=.type "tuple" /\ o.dict=none) \/
   (T = "dict" /\ ((∃ kvs,H p=some (.dK kvs))\/∃ kvs,H p=some (.dT kvs)))\/(T = "set" /\ ∃ S n,H p=some (.set S n))
 | _=>False
theorem oD {pins:List (Addr × Obj)} {σ : St} {H:Hp} {s:Shared} {T:String} {x:V} {v:Value} (I:Inv X pins σ H s) (r:RelV x v) (ty:tw X.K T x H) :
  s.TypeIs v T/\∀ a,v=.ref a->∃ ob,s.heap.get? a=some ob/\ob.dict=none:=by
 cases x with
 | str z =>
  obtain⟨t,rfl⟩:=r
  cases (show T = "str" from ty)
  exact⟨typeIs_str s z t,fun _ e=>nomatch e⟩
 | int i =>
  obtain⟨t,rfl⟩:=r
  cases (show T = "int" from ty)
  exact⟨typeIs_int s i t,fun _ e=>nomatch e⟩
 | ref p =>
  cases r
  rcases ty with ⟨rfl,xs,hq⟩ | ⟨rfl,o,hk,hc,hd⟩ | ⟨rfl,hk⟩ | ⟨rfl,S,n,hk⟩
  ·obtain⟨its,_,pl,_⟩:=I.list hq
   refine⟨pl.isList.typeIs,fun a e=>?_⟩
   cases e
   obtain⟨o,n,e,c,hd,_⟩:=pl
   exact⟨o,e,hd⟩
  ·refine⟨⟨o,I.jD p o hk,hc⟩,fun a e=>?_⟩
   cases e
   exact⟨o,I.jD _ o hk,hd⟩
  ·have z:∃ o,s.heap.get? p=some o/\o.ExactDict:=by
    rcases hk with ⟨kvs,hk⟩ | ⟨kvs,hk⟩
    ·obtain⟨_,_,_,_,o,_,_,e,ex,_⟩:=I.av p _ hk
     exact⟨o,e,ex⟩
    ·obtain⟨_,_,_,_,o,_,_,e,ex,_⟩:=I.av p _ hk
     exact⟨o,e,ex⟩
   obtain⟨o,e,ex⟩:=z
   refine⟨⟨o,e,ex.1⟩,fun a e2=>?_⟩
   cases e2
   exact⟨o,e,ex.2.1⟩
  ·obtain⟨o,_,_,_,e,ex,_⟩:=I.av p _ hk
   refine⟨⟨o,e,ex.1⟩,fun a e2=>?_⟩
   cases e2
   exact⟨o,e,ex.2.1⟩
 | _=>exact False.elim ty
def ve (K:PySem.W.Frag) (T:String) (r:V->List V->Hp->VK->Prop) (to:TE):TE:=fun σ H Q=>to σ H fun x H1=>tw K T x H1/\r x [] H1 Q
def vt (K:PySem.W.Frag) (T:String) (r:V->List V->Hp->VK->Prop) (to:TE) (t:TA):TE:=fun σ H Q=>to σ H fun x H1=>tw K T x H1/\t σ H1 fun xs H2=>r x xs H2 Q
variable {o e:Expr} {es:List Expr} {to:TE} {t:TA} {name:Str} {apos cpos:Pos} {T id:String} {r:V->List V->Hp->VK->Prop}
theorem tD (pa:PlainAttrs T) (slot:Slot T name id) (hty:typeOf (.builtin id)=pure (.type "method_descriptor")) (hm:tm X id r) (ho:PE X o to)
  (hbase:attributeBase o name X.env (eval o X.env)=eval o X.env:=by rfl) (hline:(apos.endLine == cpos.line)=true:=by rfl):PE X (.Call (.Attribute o name apos) [] [] cpos) (ve X.K T r to):=by
 intro pins s σ H Q I h
 refine wpAny_Call_method0_late hbase hline (aK (ho pins s σ H _ I h) fun v s1 ⟨x,H1,I1,r1,ty,q1⟩=>?_)
 obtain⟨h1,h2⟩:=oD I1 r1 ty
 exact⟨T,id,pa,slot,hty,h1,h2,Calls.callWith_builtin rfl (PySem.evalArgs_none (hm pins s1 σ H1 x [] v [] Q I1 r1 .nil q1))⟩
theorem dW (pa:PlainAttrs T) (slot:Slot T name id) (hty:typeOf (.builtin id)=pure (.type "method_descriptor")) (hm:tm X id r) (ho:PE X o to) (ha:PA X (e :: es) t)
  (hbase:attributeBase o name X.env (eval o X.env)=eval o X.env:=by rfl)
  (hfew:((backTo cpos (starEach (e :: es) X.env)).all (fun x=>!x.1) && (backToKw cpos (keywordEach [] X.env)).all (fun x=>x.1.isSome)
   && decide ((e :: es).length+([]:List Keyword).length+(if ([]:List Keyword).isEmpty then 0 else 1) < 30))=true:=by rfl)
  (hline:(apos.endLine == cpos.line)=true:=by rfl) (hs:starEach (e :: es) X.env=(false,eval e X.env) :: starEach es X.env:=by rfl) (hplain:(backTo cpos (starEach es X.env)).any (·.1)=false:=by rfl) :
  PE X (.Call (.Attribute o name apos) (e :: es) [] cpos) (vt X.K T r to t):=by
 intro pins s σ H Q I h
 refine wpAny_Call_method_late hbase hfew hline rfl (aK (ho pins s σ H _ I h) fun v s1 ⟨x,H1,I1,r1,ty,q1⟩=>?_)
 obtain⟨h1,h2⟩:=oD I1 r1 ty
 refine⟨T,id,pa,slot,hty,h1,h2,?_⟩
 have hA:=ha cpos pins s1 σ H1 _ I1 q1
 rw [hs] at hA ⊢
 refine Calls.callWith_builtin (by show (false || (backTo cpos (starEach es X.env)).any (·.1))=false;rw [hplain] <;> rfl) (Calls.evalArgs_plain ?_)
 exact aK hA fun us s2 ⟨vs,H2,I2,r2,q2⟩=>hm pins s2 σ H2 x vs v us Q I2 r1 r2 q2
end
def oE (X:Cx) (id:String) (r:V->List V->Hp->VK->Prop):Prop :=
 ∀ (pins:List (Addr × Obj)) (s:Shared) (σ : St) (H:Hp) (x:V) (xs:List V) (v:Value) (us:List Value) (Q:VK),Inv X pins σ H s->RelV x v->Vals xs us->r x xs H Q ->
  wpAny (model X.prog X.w) X.A (call (.builtin id) (v :: us)) (EP X pins σ Q) X.xe s
theorem Vals.one:∀ {x:V} {us:List Value},Vals [x] us->∃ u,us = [u]/\RelV x u
 | _,_,.cons r .nil=>⟨_,rfl,r⟩
theorem Vals.zero:∀ {us:List Value},Vals [] us->us = []
 | _,.nil=>rfl
theorem Vals.dropLast {xs:List V} {us:List Value} (h:Vals xs us):Vals xs.dropLast us.dropLast:=by
 induction h with
 | nil=>exact .nil
 | cons r t ih =>
  cases t with
  | nil=>exact .nil
  | cons q t'=>exact .cons r ih
theorem nz {α : Type} (l:List α):l.eraseIdx (l.length - 1)=l.dropLast:=by
 induction l with
 | nil=>rfl
 | cons a r ih =>
  cases r with
  | nil=>rfl
  | cons b r =>
   have e:(a :: b :: r).length - 1=((b :: r).length - 1)+1:=by
    have h1:(a :: b :: r).length=r.length+2:=rfl
    have h2:(b :: r).length=r.length+1:=rfl
    omega
   rw [e,List.eraseIdx_cons_succ,ih]
   all_goals rfl
section
variable {X:Cx} {pins:List (Addr × Obj)} {σ : St} {H:Hp} {s:Shared} {l b:Addr} {xs ys zs:List V}
theorem Inv.p7 {its its':List Value} {n:Nat} {f:Array Value->Array Value} {t':Nat} (I:Inv X pins σ H s) (hH:H l=some (.lst xs))
  (e:s.heap.get? l=some { cls:=.type "list",data:=.seq its.toArray n }) (hf:f its.toArray=its'.toArray) (hv:Vals ys its') (hz:ys.length<=sizeLine) :
  Inv X pins σ (upd H l (.lst ys)) { s with heap:=s.heap.update l (Obj.mapSeq f),toks:=t' }:=by
 have q:=PySem.IsL.update e f
 rw [hf] at q
 refine I.write (x:=l) (e:=l) (by rw [hH];exact trivial) (.inl rfl) (fun b' u hb hu=>(Heap.get?_update_other s.heap (Obj.mapSeq f) (Ne.symm hb)).trans hu) ⟨_,q⟩ ?_
 exact⟨hz,its',_,hv,q⟩
theorem Inv.fresh (I:Inv X pins σ H s):H s.heap.objs.size=none:=I.av.fresh (Nat.le_refl _)
theorem Inv.nA (I:Inv X pins σ H s) (hH:H l=some (.lst xs)):xs.length<=sizeLine/\∃ (its:List Value) (n:Nat),Vals xs its/\xs.length=its.length/\s.heap.get? l=some { cls:=.type "list",data:=.seq its.toArray n }:=by
 obtain⟨z,its,n,r,e⟩:=I.av l _ hH
 exact⟨z,its,n,r,r.length,e⟩
theorem p8 {n:Nat} (h:n<=sizeLine):Builtin.List.listTooLong n=false:=by
 unfold Builtin.List.listTooLong
 exact decide_eq_false (by omega)
end
section
variable {X:Cx}
inductive rC  (x:V) (vs:List V) (H:Hp) (Q:VK):Prop
 | mk (l xs y:_) (_:x=.ref l) (_:vs = [y]) (_:H l=some (.lst xs)) (_:xs.length < sizeLine) (_:Q .bo (upd H l (.lst (xs ++ [y]))))
theorem cN:oE X "list.append" rC:=by
 intro pins s σ H x vs v us Q I rx rv h
 obtain⟨l,xs,y,rfl,rfl,hH,hz,q⟩:=h
 cases rx
 obtain⟨u,rfl,ru⟩:=rv.one
 obtain⟨z,its,n,r,hl,e⟩:=I.nA hH
 refine call_meets F.slot_list_append ⟨_,e,rfl⟩ F.entry_list_append (F.args_list_append_2 _ _) (PySem.list_append l its.toArray n u (by rw [List.size_toArray];omega)) ⟨e,?_⟩
 refine⟨.bo,_,I.p7 (its':=its ++ [u]) hH e (by simp) (r.append (.cons ru .nil)) ?_,rfl,q⟩
 rw [List.length_append,List.length_singleton]
 omega
inductive rD  (x:V) (vs:List V) (H:Hp) (Q:VK):Prop
 | mk (l b xs zs:_) (_:x=.ref l) (_:vs = [.ref b]) (_:H l=some (.lst xs)) (_:H b=some (.lst zs)) (_:xs.length+zs.length<=sizeLine) (_:Q .bo (upd H l (.lst (xs++zs))))
theorem jK:oE X "list.extend" rD:=by
 intro pins s σ H x vs v us Q I rx rv h
 obtain⟨l,b,xs,zs,rfl,rfl,hH,hB,hz,q⟩:=h
 cases rx
 obtain⟨u,rfl,ru⟩:=rv.one
 cases ru
 obtain⟨z,its,n,r,hl,e⟩:=I.nA hH
 obtain⟨z2,its2,n2,r2,hl2,e2⟩:=I.nA hB
 have hsz:its.toArray.size+its2.toArray.size<=sizeLine:=by rw [List.size_toArray,List.size_toArray];omega
 have hlong:¬ (!its.toArray.isEmpty && Builtin.List.listTooLong (its.toArray.size+its2.toArray.size))=true:=by
  rw [p8 hsz,Bool.and_false]
  exact Bool.false_ne_true
 refine call_meets F.slot_list_extend ⟨_,e,rfl⟩ F.entry_list_extend (F.args_list_extend_2 _ _)
  (AutoSeq1.list_extend_list_list_0 l its.toArray n b its2.toArray n2 hlong (by rw [List.size_toArray];omega) (by omega)) ⟨e,e2,?_⟩
 refine⟨.bo,_,I.p7 (its':=its++its2) hH e (by simp) (r.append r2) ?_,rfl,q⟩
 rw [List.length_append]
 omega
inductive vf  (x:V) (vs:List V) (H:Hp) (Q:VK):Prop
 | mk (l xs y:_) (_:x=.ref l) (_:vs = []) (_:H l=some (.lst xs)) (_:xs[xs.length - 1]? = some y) (_:Q y (upd H l (.lst xs.dropLast)))
theorem tE:oE X "list.pop" vf:=by
 intro pins s σ H x vs v us Q I rx rv h
 obtain⟨l,xs,y,rfl,rfl,hH,hy,q⟩:=h
 cases rx
 have hus:=rv.zero
 subst hus
 obtain⟨z,its,n,r,hl,e⟩:=I.nA hH
 obtain⟨u,hu,ru⟩:=r.get hy
 have hy':its.toArray[its.toArray.size - 1]? = some u:=by
  show its.toArray[its.length - 1]? = some u
  rw [<-Array.getElem?_toList,<-hl]
  exact hu
 refine call_meets F.slot_list_pop ⟨_,e,rfl⟩ F.entry_list_pop (F.args_list_pop_1 _) (MeetsSeq.list_pop_last l its.toArray n u hy' (by rw [List.size_toArray];omega)) ⟨e,?_⟩
 refine⟨y,_,I.p7 (its':=its.dropLast) hH e ?_ r.dropLast ?_,ru,q⟩
 ·show its.toArray.eraseIdxIfInBounds (its.toArray.size - 1)=its.dropLast.toArray
  rw [List.size_toArray,List.eraseIdxIfInBounds_toArray,nz]
 ·rw [List.length_dropLast]
  omega
end
section
variable {prog:Program} {w:World} {A:Around} {E:Value->Shared->Prop} {s:Shared}
end
section
variable {X:Cx}
end
end L2
namespace uJ
open PySem PySem.W PySem.Calls PyProof.Rows
theorem iT {P:Params} {h:Heap}:∀ (ns:List Int) (vs:List Value),WellAll P h vs (ns.map WData.int)->IntsAre vs ns:=by
 intro ns
 induction ns with
 | nil =>
  intro vs w
  rw [List.map_nil] at w
  cases w
  exact .nil
 | cons n ns ih =>
  intro vs w
  rw [List.map_cons] at w
  cases w with
  | cons a b =>
   cases a
   exact .cons _ _ (ih _ b)
theorem oF {l:OpenLaw} {n:Nat} (hn:l.most=some n) {P:Params} {h:Heap} {args:List WData} {vals:List Value}
  (hpre:l.row.toRowW.claim.pre args=true) (hwl:WellAll P h vals args) :
  ∃ a vs ns,vals = [Value.ref a]/\args = [WData.list (ns.map WData.int)]/\h.get? a=some { cls:=.type "list",data:=.seq vs.toArray }/\IntsAre vs ns/\ns.length<=n:=by
 have hsh:WShape.hasAll [] args [.list .int] = true:=(pre_splitW hpre).1
 have hc:l.pre.holds [] { args:=args }=true:=(pre_splitW hpre).2
 obtain⟨d,r,rfl,h1,h2⟩:=hasAllW_cons hsh
 obtain rfl:=hasAllW_nil h2
 obtain⟨xs,rfl,h3⟩:=hasW_list h1
 obtain⟨ns,rfl⟩:=items_int h3
 have hlen:ns.length<=n:=by
  unfold OpenLaw.pre at hc
  have h4:(WTm.not (.lt (.lit (.int (n:Int))) (.len (.arg 0)))).holds [] { args:=[.list (ns.map .int)] }=true:=by
   have h4:=(holds_andW hc).1
   rw [hn] at h4
   exact h4
  have h5:=condW_of h4 (w_not (w_lt w_lit (w_len_list (w_arg rfl))))
  rw [List.length_map] at h5
  refine Nat.le_of_not_lt fun q=>?_
  have q':(n:Int) < ((ns.length:Nat):Int):=by omega
  first
   | (rw [decide_eq_true q'] at h5;exact absurd h5 (by decide))
   | (simp at h5;omega)
 cases hwl with
 | cons w1 w2 =>
  cases w2
  cases w1 with
  | list ho hall=>exact⟨_,_,ns,rfl,rfl,ho,iT ns _ hall,hlen⟩
theorem oG (l:OpenLaw) (args:List WData):l.row.toRowW.claim.post args (.bool true) args=true :=
 postW_of (r:=l.row.toRowW) (X:=(true == true))
  (show WShape.has [] (.bool true) .bool=true by first | rfl | decide | simp [WShape.has,WShape.arms,WShape.armsAll])
  (show (WTm.eq .res (.lit (.bool true))).value [] { args:=args,res:=some (.bool true),after:=args }=some (.bool (true == true)) from w_eq_bool (w_res rfl) w_lit) rfl
theorem lM {l:OpenLaw} {n:Nat} {q:Program} {loose:List Str} {XP:(Str->Option Value)->Heap->Prop} {YP:World->Heap->Prop} {d:DefRec}
  (hn:l.most=some n) (hdf:d.params.defaults = [])
  (call:∀ (w:World) (bO s₁ : Shared) (mg mb:Str->Option Value) (fa:Addr) (o:Obj) (pm cd doc:Value) (a:Addr) (vs:List Value) (ns:List Int),
   Ground q loose [] XP w bO mg mb s₁.heap->YP w s₁.heap ->
   s₁.heap.get? fa=some o->o.data=.func (docDef d.name d.params d.body d.scope pm cd doc)->s₁.heap.CodeRec cd d.name->mg d.name=some (.ref fa) ->
   s₁.heap.get? a=some { cls:=.type "list",data:=.seq vs.toArray }->IntsAre vs ns->ns.length<=n->s₁.gens = #[] ->
   codeAny (model l.prog w) callerA (.call (.ref fa) ⟨[.ref a],[]⟩) (fun r s'=>r=.ok (.ret (.bool true))/\OldK s₁.heap s'.heap/\s'.os=s₁.os/\AllBare s'.gens) s₁) :
  WalkO q loose XP YP l.row.toRowW d [] (fun f vs=>PySem.call f vs):=by
 intro w bO s₁ mg mb G Y fa o pm cd doc dV kV ho hd hcd hD hmg hg args vals as hpre hlay hrd hwl hlo
 obtain rfl:dV=.none:=Dflts.none hD hdf
 obtain rfl:kV=.none:=Dflts.noKw hD
 obtain⟨a,vs,ns,rfl,rfl,hobj,hints,hlen⟩:=oF hn hpre hwl
 refine enter_call (codeAny_mono (call w bO s₁ mg mb fa o pm cd doc a vs ns G Y ho (fd_plain hd) hcd hmg hobj hints hlen hg) fun r s' hq=>?_)
 obtain⟨rfl,h2,h3,h4⟩:=hq
 exact⟨.inl ⟨.bool true,.bool true,[],rfl,fun _=>rfl,.bool true,oG l _,fun _=>⟨List.Pairwise.nil,fun _ hm=>(nomatch hm)⟩⟩,h2,h3,h4⟩
section
variable {prog:Program} {w:World} {A:Around} {E:Value->Shared->Prop} {s:Shared} {K:Frag}
def ledger (h:Heap) (L d:Addr):List (Addr × Obj):=(List.range h.objs.size).filterMap fun a=>if a=L\/a=d then none else (h.get? a).map fun o=>(a,o)
end
end uJ
namespace L2
open PySem PySem.Spec PyProof.Rows
theorem dG:∀ {vs:List Value} {ns:List Int},IntsAre vs ns->Vals (ns.map V.int) vs
 | _,_,.nil=>.nil
 | _,_,.cons n t h=>.cons ⟨t,rfl⟩ (dG h)
def p9 (H:Hp):Prop:=∀ b,H b=none\/∃ o xs,H b=some (.gY o (.lst xs))
theorem qc {P:Program} {w:World} {K:PySem.W.Frag} {mg mb:Str->Option Value} {CX:fV} {k:Nat} {fa a:Addr} {fd:FuncData} {x:Str} {sp:Sp} {s₁ : Shared} {vs:List Value} {ns:List Int}
    (KX:K.In s₁.heap) (hns:s₁.heap.Ns mainGlobals mg) (hb:s₁.heap.Ns builtinsNs mb) (hbb:∀ x:Str,x ≠ "__name__" -> mb x=bootBuiltins x) (hlim:s₁.heap.NoLimit) (hg:s₁.gens = #[])
    (ha:s₁.heap.get? a=some { cls:=.type "list",data:=.seq vs.toArray }) (hi:IntsAre vs ns) (hl:ns.length<=sizeLine) (hr:bY k callerA)
    (F:∀ base:Heap,K.In base->base.Ns mainGlobals mg->bw P w K mg base CX k fa fd [x] sp) (hbind:∀ (s:Shared) (u:Value),BindsTo s fd ⟨[u],[]⟩ [(x,u)])
    (hsp:∀ H:Hp,p9 H->ax K H a (ns.map V.int)->sp [.ref a] H (fun v _=>v=.bl true) fun _ _ _=>False)
    (hCX:∀ H e s',CX [] H s₁ (fun _ _ _=>False) e s'->False) :
    codeAny (model P w) callerA (.call (.ref fa) ⟨[.ref a],[]⟩) (fun r s'=>r=.ok (.ret (.bool true))/\OldK s₁.heap s'.heap/\s'.os=s₁.os/\AllBare s'.gens) s₁:=by
  have rv:=dG hi
  have lenV:=hi.length
  have core:∀ H:Hp,p9 H->ax K H a (ns.map V.int)->bN P w H s₁.heap->(∀ b,H b ≠ none->b=a)->(H a ≠ none->K.lookup a=none) ->
      codeAny (model P w) callerA (.call (.ref fa) ⟨[.ref a],[]⟩) (fun r s'=>r=.ok (.ret (.bool true))/\OldK s₁.heap s'.heap/\s'.os=s₁.os/\AllBare s'.gens) s₁:=by
    intro H hO hS av hA hK
    have base_of:∀ {b:Addr} {o:Obj},s₁.heap.get? b=some o->H b=none->(fh s₁.heap H).get? b=some o:=fun e n=>pL e n
    have noA:∀ {b:Addr} {o:Obj} {es:Array DictEntry} {ep:Nat},s₁.heap.get? b=some o->o.data=.dict es ep->H b=none:=fun {b o es ep} e d=>by
      cases q:H b with
      | none=>rfl
      | some u =>
        have e':b=a:=hA b (by rw [q];simp)
        subst e'
        rw [ha] at e;cases e
        have d':Data.seq vs.toArray _=Data.dict es ep:=d
        cases d'
    have nsK:∀ {b:Addr} {m:Str->Option Value},s₁.heap.Ns b m->(fh s₁.heap H).Ns b m:=fun {b m} ⟨o,es,ep,e,d,r⟩=>⟨o,es,ep,base_of e (noA e d),d,r⟩
    have hKb:K.In (fh s₁.heap H):=fun b o e=>base_of (KX b o e) (by
      cases q:H b with
      | none=>rfl
      | some u =>
        have e':b=a:=hA b (by rw [q];simp)
        subst e'
        rw [hK (by rw [q];simp)] at e;cases e)
    have hM:Mod K mg (fh s₁.heap H):=⟨hKb,nsK hns,⟨mb,nsK hb,hbb⟩,let ⟨mc,h1,h2⟩:=hlim;⟨mc,nsK h1,h2⟩⟩
    have e0:nj P w K mg (fh s₁.heap H) callerA [] s₁ H:=⟨rfl,hM,fun b o e=>rg e,Nat.le_of_eq (oi _ _),trivial,fun b hb=>absurd (show b ∈ ([]:List Addr) from hb) (by simp),av,.of_eq hg⟩
    refine codeAny_mono ((F _ hKb (nsK hns)).run callerA [] s₁ H ⟨[.ref a],[]⟩ [.ref a] [.ref a] _ _ hr e0 (hbind s₁ (.ref a)) (.cons rfl .nil) (hsp H hO hS)) fun r s' h=>?_
    cases r with
    | error e=>exact (hCX H e s' h).elim
    | ok fl =>
      cases fl with
      | next=>exact False.elim h
      | brk=>exact False.elim h
      | cont=>exact False.elim h
      | ret u =>
        obtain⟨v,H',os,bare,un,hok',r',q⟩:=h
        have q':v=.bl true:=q
        subst q'
        obtain rfl:u=Value.bool true:=r'
        refine⟨rfl,OldK.of_keep fun b o e=>?_,os,bare⟩
        cases q:H b with
        | none=>exact un.keep b o e q (by intro z;exact absurd (show b ∈ ([]:List Addr) from z) (by simp)) (by simp)
        | some u =>
          rcases hO b with z | ⟨ob,xs,z⟩
          · rw [q] at z;cases z
          · have z2:=un.fg b ob _ z
            obtain⟨e1,_⟩:=av b _ z
            obtain⟨e2,_⟩:=hok' b _ z2
            rw [e] at e1;cases e1
            exact e2
  cases hk:K.lookup a with
  | some o =>
    have e:=KX a o hk
    rw [ha] at e
    cases e
    refine core (fun _=>none) (fun _=>.inl rfl) (.inr ⟨_,vs.toArray,_,hk,rfl,rfl,rfl,by rw [List.size_toArray,lenV];exact hl,by simpa using rv⟩) (fun b u z=>by have z':(none:Option HO)=some u:=z;cases z') (fun b z=>absurd rfl z) fun z=>absurd rfl z
  | none =>
    refine core (fun b=>if b=a then some (.gY { cls:=.type "list",data:=.seq vs.toArray } (.lst (ns.map V.int))) else none) (fun b=>?_) (.inl (.inr ⟨{ cls:=.type "list",data:=.seq vs.toArray },if_pos rfl⟩)) (fun b u z=>?_) (fun b z=>?_) fun _=>hk
    · by_cases hb:b=a
      · exact .inr ⟨_,_,if_pos hb⟩
      · exact .inl (if_neg hb)
    · by_cases hb:b=a
      · have z':=(if_pos hb).symm.trans z
        cases z'
        subst hb
        exact⟨ha,by rw [List.length_map];exact hl,vs,_,rv,ha⟩
      · have z':=(if_neg hb).symm.trans z
        cases z'
    · by_cases hb:b=a
      · exact hb
      · exact absurd (if_neg hb) z
abbrev KOf {K:PySem.W.Frag} {h:Heap} (_:K.In h):PySem.W.Frag:=K
theorem rE {l:PySem.W.OpenLaw} {n k:Nat} {q:Program} {loose:List Str} {XP:(Str->Option Value)->Heap->Prop} {YP:World->Heap->Prop} {d:DefRec} {K:Params->PySem.W.Frag} {CX:World->fV} {sp:World->Sp} {x:Str}
  (hn:l.most=some n) (hn2:n<=sizeLine) (hdf:d.params.defaults = []) (hr:bY k callerA)
  (hY:∀ (w:World) (h:Heap),YP w h->(K w.params).In h)
  (F:∀ (w:World) (mg:Str->Option Value) (fa:Addr) (h:Heap),(K w.params).In h->h.Ns mainGlobals mg->mg d.name=some (.ref fa) ->
   ∃ fd:FuncData,(∀ (s:Shared) (u:Value),BindsTo s fd ⟨[u],[]⟩ [(x,u)]) /\
    ∀ base:Heap,(K w.params).In base->base.Ns mainGlobals mg->bw l.prog w (K w.params) mg base (CX w) k fa fd [x] (sp w))
  (hsp:∀ (w:World) (H:Hp) (a:Addr) (ns:List Int),ns.length<=n->p9 H->ax (K w.params) H a (ns.map V.int)->sp w [.ref a] H (fun v _=>v=.bl true) fun _ _ _=>False)
  (hCX:∀ (w:World) (H:Hp) (s:Shared) (e:Value) (s':Shared),CX w [] H s (fun _ _ _=>False) e s'->False) :
  PySem.W.WalkO q loose XP YP l.row.toRowW d [] (fun f vs=>PySem.call f vs):=by
 refine uJ.lM hn hdf fun w bO s₁ mg mb fa o pm cd doc a vs ns G Y ho hd hcd hmg hobj hints hlen hg=>?_
 have KX:=hY w _ Y
 obtain⟨fd,hb,hF⟩:=F w mg fa _ KX G.T.g hmg
 exact qc KX G.T.g G.T.b G.T.builtins G.T.nolimit hg hobj hints (Nat.le_trans hlen hn2) hr hF hb (fun H hO hS=>hsp w H a ns hlen hO hS) fun H e s'=>hCX w H s₁ e s'
def b5 (s:Stmt):Arguments:=match s with
 | .FunctionDef _ a _ _ _ _ _ _ _ _=>a
 | _=>{ posonlyargs:=[],args:=[],vararg:=none,kwonlyargs:=[],kw_defaults:=[],kwarg:=none,defaults:=[] }
def bM (s:Stmt):List Stmt:=match s with
 | .FunctionDef _ _ b _ _ _ _ _ _ _=>b
 | _=>[]
def ao (s:Stmt):Scope:=match s with
 | .FunctionDef _ _ _ _ _ _ sc _ _ _=>sc
 | _=>{ kind:=.function,names:=[],isGenerator:=false,isCoroutine:=false }
abbrev bW:fV:=fun _ _ _ _ _ _=>False
abbrev E0:XK:=fun _ _ _=>False
theorem uw {X:Cx}:Passes bW X E0:=fun _ _ _ _ _ _ _ h=>h.elim
structure b0 (K:PySem.W.Frag) (x qual:Str) (st:Stmt) (f:Addr) (fd:FuncData):Prop where
 ex:∃ (oc:Value) (od:Option Addr) (kV doc pm:Value) (an:Option Addr) (cdv ct:Value) (osl:Array (Option Value)),
  fd=PySem.W.fnOf x qual (b5 st) (bM st) (ao st) .none kV doc pm an cdv ct/\K.lookup f=some ⟨oc,od,.func fd,osl⟩/\PySem.W.codeIn K cdv qual=true
 kp:PySem.W.keepIn K (.ref f)=true
section
variable {P:Program} {w:World} {K:PySem.W.Frag} {mg:Str->Option Value} {base:Heap}
theorem b0.ok {x qual:Str} {st:Stmt} {f:Addr} {fd:FuncData} {N ps:List Str} {k:Nat} {sp:Sp} (F:b0 K x qual st f fd) (S:aN N ps (ao st)) (len:∀ vs H Q E,sp vs H Q E->vs.length=ps.length)
  (hbody:∀ (cdv:Value) (A:Around) (outer:List Env) (s:Shared) (H:Hp) (vs:List V) (Q:VK) (E:XK),bY k (A.deeper (envOfC qual (ao st) s.heap.objs.size f cdv))->sp vs H Q E ->
   ∃ t,eF (il bW P w K mg base N qual (ao st) f cdv A outer s H E).mj (bM st) t/\t { nx:=fun _ H'=>Q .bo H',rt:=Q } (start N vs) H):bw P w K mg base bW (k+1) f fd ps sp:=by
 obtain⟨oc,od,kV,doc,pm,an,cdv,ct,osl,rfl,lk,hcd⟩:=F.ex
 refine qO lk hcd S len fun A outer s H vs Q E hr hsp=>?_
 obtain⟨t,h,q⟩:=hbody cdv A outer s H vs Q E hr hsp
 exact⟨t,h.mj,q⟩
theorem b0.binds {x qual:Str} {st:Stmt} {f:Addr} {fd:FuncData} {ps:List Str} (F:b0 K x qual st f fd)
  (h:∀ (kV doc pm:Value) (an:Option Addr) (cdv ct:Value) (us:List Value),us.length=ps.length->bindArgs (PySem.W.fnOf x qual (b5 st) (bM st) (ao st) .none kV doc pm an cdv ct) ⟨us,[]⟩=pure (ps.zip us)):Binds K fd ps []:=by
 obtain⟨oc,od,kV,doc,pm,an,cdv,ct,osl,rfl,lk,hcd⟩:=F.ex
 exact .all (h kV doc pm an cdv ct)
theorem tF {x qual:Str} {st:Stmt} {f:Addr} {oc:Value} {od an:Option Addr} {osl:Array (Option Value)} {kV doc pm cdv ct:Value} (l:K.lookup f=some ⟨oc,od,.func (PySem.W.fnOf x qual (b5 st) (bM st) (ao st) .none kV doc pm an cdv ct),osl⟩)
  (c:PySem.W.codeIn K cdv qual=true) (k:PySem.W.keepIn K (.ref f)=true):b0 K x qual st f (PySem.W.fnOf x qual (b5 st) (bM st) (ao st) .none kV doc pm an cdv ct):=⟨⟨oc,od,kV,doc,pm,an,cdv,ct,osl,rfl,l,c⟩,k⟩
end
theorem jZ {A:Around} {k:Nat} (hr:bY k A):A.units+1 < cLine:=Nat.lt_of_le_of_lt (Nat.add_le_add_left (by decide:1<=64) _) hr.units
theorem bA {n:Nat} (h:n<=1000):n < sizeLine:=Nat.lt_of_le_of_lt h (by decide)
section
variable {X:Cx}
theorem pv (i:Nat) {x:Str} {pos:Pos} (hN:X.N[i]? = some x:=by rfl) (hv:sF X.env.scope x:=by first | exact Or.inl rfl | exact Or.inr (Or.inl rfl) | exact Or.inr (Or.inr rfl)) (hd:(x == ("__debug__" : Str))=false:=by decide)
  (hcd:(x == ("__classdict__" : Str))=false:=by decide):PE X (.Name x pos) (sG i):=sH hN hv hd hcd
end
theorem eN {A B:Prop} (h:B):if false=true then A else B:=by
 rw [if_neg Bool.false_ne_true]
 exact h
theorem fj {A B:Prop} (h:A):if true=true then A else B:=by
 rw [if_pos rfl]
 exact h
theorem dM {c A B:Prop} [Decidable c] (h1:c->A) (h2:¬ c->B):if c then A else B:=by
 by_cases h:c
 ·rw [if_pos h]
  exact h1 h
 ·rw [if_neg h]
  exact h2 h
def ah (H H':Hp):Prop:=∀ b o,H b=some o->H' b=some o
theorem ah.refl (H:Hp):ah H H:=fun _ _ h=>h
theorem ah.trans {H H1 H2:Hp} (a:ah H H1) (b:ah H1 H2):ah H H2:=fun c o h=>b c o (a c o h)
theorem ah.free {H H':Hp} (e:ah H H') {l:Addr} (h:H' l=Option.none):H l=Option.none:=by
 cases q:H l with
 | none=>rfl
 | some o =>
  rw [e l o q] at h
  cases h
theorem ah.seq {K:PySem.W.Frag} {H H':Hp} {a:Addr} {xs:List V} (e:ah H H') (h:ax K H a xs):ax K H' a xs:=by
 rcases h with (h | ⟨o,h⟩) | h
 ·exact .inl (.inl (e _ _ h))
 ·exact .inl (.inr ⟨o,e _ _ h⟩)
 ·exact .inr h
section
variable {X:Cx}
theorem rF:cv X (binaryOp .Mult) (rI IntMulOk fun i j=>.int (i * j)):=mq fun _ _ _ _ _ _ _ hc q=>mul_int q hc
def ux (_i j:Int):Prop:=0 < j/\j.natAbs.log2 < 9000
theorem qd:cv X (binaryOp .FloorDiv) (rI ux fun i j=>.int (i / j)):=mq fun i j _ _ _ _ _ hc q=>by
 have h1:(0:Int) < j:=hc.1
 exact floordiv_int (by omega) (by rw [Int.fdiv_eq_ediv_of_nonneg i (by omega)];exact q) (.inl (PyProof.noPylong_of_log2 hc.2))
structure Own (P:Program) (w:World) (K:PySem.W.Frag) (mg:Str->Option Value) (base:Heap) (x:Str) (k:Nat) (ps:List Str) (sp:Sp):Prop where
 ex:∃ f fd,bw P w K mg base bW k f fd ps sp/\mg x=some (.ref f)/\PySem.W.keepIn K (.ref f)=true/\Binds K fd ps []
variable {x:Str} {k:Nat} {ps:List Str} {sp:Sp} {e:Expr} {es:List Expr} {t:TA} {p pos:Pos}
theorem tG (o:Own X.prog X.w X.K X.mg X.base x k ps sp) (hr:bY k X.A) (hg:Gl X x) (ha:PA X (e :: es) t)
  (hdb:(x == ("__debug__" : Str))=false:=by decide) (he:starEach (e :: es) X.env=(false,eval e X.env) :: starEach es X.env:=by rfl)
  (hpl:(backTo pos (starEach es X.env)).any (·.1)=false:=by rfl):PE X (.Call (.Name x p) (e :: es) [] pos) (nq sp [] E0 t):=by
 obtain⟨f,fd,F,hm,hk,hb⟩:=o.ex
 exact rA F hr hg hm hk hb .nil uw ha hdb he hpl
end
theorem gZ {α : Type} {x:α} {xs:List α}:dq (x :: xs) 0=some x:=bg (j:=0) rfl
theorem fI {α : Type} {x y:α} {xs:List α}:dq (x :: y :: xs) 1=some y:=bg (j:=1) rfl
theorem at2 {α : Type} {x y z:α} {xs:List α}:dq (x :: y :: z :: xs) 2=some z:=bg (j:=2) rfl
theorem nB {α : Type} {xs:List α} {i:Int} (h0:0<=i) (h1:i < xs.length):∃ v,dq xs i=some v/\v ∈ xs:=by
 obtain⟨j,rfl⟩:∃ j:Nat,i=j:=⟨i.toNat,by omega⟩
 have hj:j < xs.length:=by omega
 exact⟨xs[j],bg (by simp [hj]),List.getElem_mem hj⟩
theorem dH:bootBuiltins "len" = some (.builtin "len"):=by decide +kernel
theorem tH:bootBuiltins "min" = some (.builtin "min"):=by decide +kernel
theorem tI:bootBuiltins "int" = some (.type "int"):=by decide +kernel
theorem bK:bootBuiltins "tuple" = some (.type "tuple"):=by decide +kernel
theorem mF:bootBuiltins "list" = some (.type "list"):=by decide +kernel
def bx (H:Hp) (b:Addr):Prop:=∃ x y:Int,H b=some (.lst [.int x,.int y])/\0<=y/\y < 2147483648
def Fix (b:Addr) (H H':Hp):Prop:=∀ c o,H c=some o->c ≠ b->H' c=some o
theorem Fix.trans {b:Addr} {H H1 H2:Hp} (u:Fix b H H1) (v:Fix b H1 H2):Fix b H H2:=fun c o h n=>v c o (u c o h n) n
theorem Fix.qP {b:Addr} {H:Hp} {o:HO}:Fix b H (upd H b o):=fun c u h n=>by rw [ae n];exact h
theorem Fix.new {b p:Addr} {H:Hp} {o:HO} (hp:H p=none):Fix b H (upd H p o):=fun c u h _=>by rw [ae (aF h hp)];exact h
theorem Fix.of_same {b:Addr} {H H':Hp} (h:ah H H'):Fix b H H':=fun c o e _=>h c o e
theorem ah.new {p:Addr} {H:Hp} {o:HO} (hp:H p=none):ah H (upd H p o):=fun c u h=>by rw [ae (aF h hp)];exact h
theorem bx.new {b p:Addr} {H:Hp} {o:HO} (h:bx H b) (hp:H p=none):bx (upd H p o) b:=by
 obtain⟨x,y,e,q⟩:=h
 exact⟨x,y,by rw [ae (aF e hp)];exact e,q⟩
theorem bx.same {b:Addr} {H H':Hp} (h:bx H b) (s:ah H H'):bx H' b:=by
 obtain⟨x,y,e,q⟩:=h
 exact⟨x,y,s _ _ e,q⟩
theorem tJ {α : Type} {x0:α}:[x0].length<=sizeLine:=by show 1<=sizeLine;decide
theorem ln2 {α : Type} {x0 x1:α}:[x0,x1].length<=sizeLine:=by show 2<=sizeLine;decide
theorem qQ {α : Type} {x0 x1 x2:α}:[x0,x1,x2].length<=sizeLine:=by show 3<=sizeLine;decide
theorem vv {α : Type} {x0 x1 x2 x3 x4:α}:[x0,x1,x2,x3,x4].length<=sizeLine:=by show 5<=sizeLine;decide
theorem vw {α : Type} {x0 x1 x2 x3 x4 x5 x6:α}:[x0,x1,x2,x3,x4,x5,x6].length<=sizeLine:=by show 7<=sizeLine;decide
theorem ah.kx {b:Addr} {H H1 H2:Hp} (s:ah H H1) (n:H b=none) (f:Fix b H1 H2):ah H H2:=fun c o e=>f c o (s c o e) (aF e n)
theorem bx.ky {b p:Addr} {H:Hp} {xs:List V} (h:bx H b) (e:H p=some (.tup xs)):p ≠ b:=by
 obtain⟨x,y,e1,_⟩:=h
 exact bU e e1 (by intro z;cases z)
theorem bx.b6 {b p:Addr} {H:Hp} (h:bx H b) (e:H p=none):p ≠ b:=by
 obtain⟨x,y,e1,_⟩:=h
 exact fun z=>aF e1 e z.symm
inductive qR (K:PySem.W.Frag) (vs:List V) (H:Hp) (Q:VK) (_:XK):Prop
 | mk (a:Addr) (ns:List Int) (k:Int) (_:vs = [.ref a,.int k]) (_:ax K H a (ns.map V.int)) (_:0<=k) (_:∀ b H',H b=none->bx H' b->ah H H'->Q (.ref b) H')
inductive cU  (vs:List V) (H:Hp) (Q:VK) (_:XK):Prop
 | mk (b:Addr) (m:Int) (_:vs = [.ref b,.int m]) (_:bx H b) (_:(0 < m/\m.natAbs.log2 < 9000)) (_:∀ r H',0<=r->r < m->bx H' b->Fix b H H'->Q (.int r) H')
inductive j0 (K:PySem.W.Frag) (vs:List V) (H:Hp) (Q:VK) (_:XK):Prop
 | mk (a:Addr) (ns:List Int) (_:vs = [.ref a]) (_:ax K H a (ns.map V.int)) (_:ns.length<=63) (_:∀ H',Q (.bl true) H')
def eY (cells:List (Str × Addr)):List (Str × NameKind)->List (Str × Addr)->List (Str × Addr)
 | [],cs=>cs
 | (n,k) :: r,cs=>eY cells r (if k == .free then (n,(cells.lookup n).getD 0) :: cs else cs)
theorem iU {scope:Scope} {env:Env} (hf:∀ y ∈ scope.names,y.2=.free->∃ c,env.cells.lookup y.1=some c):closureFor scope env=pure (eY env.cells scope.names []):=by
 have key:∀ (names:List (Str × NameKind)) (cs:List (Str × Addr)),(∀ y ∈ names,y.2=.free->∃ c,env.cells.lookup y.1=some c) ->
   (forIn names cs fun x r=>match x with
    | (name,kind)=>if (kind == NameKind.free)=true then (do let a <-cellOf env name;pure (ForInStep.yield ((name,a) :: r))) else pure (ForInStep.yield r):Sem (List (Str × Addr)))=pure (eY env.cells names cs):=by
  intro names
  induction names with
  | nil=>intro cs _;rfl
  | cons y r ih =>
   intro cs hy
   obtain⟨n,k⟩:=y
   have ih':=fun cs=>ih cs fun z hz=>hy z (List.mem_cons_of_mem _ hz)
   rw [List.forIn_cons]
   by_cases hk:(k == NameKind.free)=true
   ·have e:k=.free:=by simpa using hk
    obtain⟨c,hc⟩:=hy (n,k) List.mem_cons_self e
    have hc':env.cells.lookup n=some c:=hc
    simp only [hk,if_true,cellOf,hc',pure_bind,eY,Option.getD_some]
    exact ih' _
   ·have hk':(k == NameKind.free)=false:=by simpa using hk
    simp only [hk',Bool.false_eq_true,if_false,pure_bind,eY]
    exact ih' _
 unfold closureFor
 have e:=key scope.names [] hf
 show ((forIn scope.names ([]:List (Str × Addr)) fun x r=>match x with
    | (name,kind)=>if (kind == NameKind.free)=true then (do let a <-cellOf env name;pure (ForInStep.yield ((name,a) :: r))) else pure (ForInStep.yield r):Sem (List (Str × Addr))) >>= fun r=>pure r)=_
 rw [e,pure_bind]
theorem fY {cells:List (Str × Addr)}:∀ (names:List (Str × NameKind)) (cs:List (Str × Addr)),(∀ y ∈ names,y.2=.free->∃ c,cells.lookup y.1=some c) ->
  (∀ x c,cs.lookup x=some c->cells.lookup x=some c)->∀ x c,(eY cells names cs).lookup x=some c->cells.lookup x=some c
 | [],_,_,h,x,c,e=>h x c e
 | (n,k) :: r,cs,hf,h,x,c,e=>by
  refine fY r _ (fun y hy=>hf y (List.mem_cons_of_mem _ hy)) (fun z d hz=>?_) x c e
  by_cases hk:(k == NameKind.free)=true
  ·rw [if_pos hk] at hz
   obtain⟨c',hc⟩:=hf (n,k) List.mem_cons_self (by simpa using hk)
   have hc':cells.lookup n=some c':=hc
   rw [List.lookup_cons] at hz
   cases hzn:z == n with
   | true =>
    rw [hzn] at hz
    have:z=n:=by simpa using hzn
    subst this
    rw [hc'] at hz ⊢
    simpa using hz
   | false=>rw [hzn] at hz;exact h z d hz
  ·rw [if_neg hk] at hz;exact h z d hz
theorem ji {cells:List (Str × Addr)} {x:Str}:∀ (names:List (Str × NameKind)) (cs:List (Str × Addr)),((x,NameKind.free) ∈ names\/∃ c,cs.lookup x=some c)->∃ c,(eY cells names cs).lookup x=some c
 | [],_,h=>by
  rcases h with h | h
  ·cases h
  ·exact h
 | (n,k) :: r,cs,h=>by
  refine ji r _ ?_
  by_cases hk:(k == NameKind.free)=true
  ·rw [if_pos hk]
   cases hxn:x == n with
   | true=>exact .inr ⟨_,by rw [List.lookup_cons,hxn]⟩
   | false =>
    rcases h with h | ⟨c,h⟩
    ·rcases List.mem_cons.mp h with h | h
     ·have:x=n:=(Prod.mk.inj h).1
      subst this
      simp at hxn
     ·exact .inl h
    ·exact .inr ⟨c,by rw [List.lookup_cons,hxn];exact h⟩
  ·rw [if_neg hk]
   rcases h with h | h
   ·rcases List.mem_cons.mp h with h | h
    ·have:NameKind.free=k:=(Prod.mk.inj h).2
     subst this
     simp at hk
    ·exact .inl h
   ·exact .inr h
theorem en {env:Env} {x:Str} {k:NameKind} (hk:k=.cell\/k=.free):∀ {names:List (Str × NameKind)},(∀ y ∈ names,y.2 ≠ .cell) ->
  (names.map fun (n,k)=>if (k == NameKind.free && env.scope.kind == .function && env.kindOf n == some .cell) then (n,NameKind.cell) else (n,k)).lookup x=some k->(x,NameKind.free) ∈ names
 | [],_,h=>by simp at h
 | (n,q) :: r,hc,h=>by
  have ih:=en (env:=env) (x:=x) hk (names:=r) (fun y hy=>hc y (List.mem_cons_of_mem _ hy))
  have h':List.lookup x ((if (q == NameKind.free && env.scope.kind == .function && env.kindOf n == some .cell)=true then (n,NameKind.cell) else (n,q)) :: _)=some k:=h
  by_cases hq:(q == NameKind.free && env.scope.kind == .function && env.kindOf n == some .cell)=true
  ·rw [if_pos hq,List.lookup_cons] at h'
   have eq:q=.free:=by
    rw [Bool.and_eq_true,Bool.and_eq_true] at hq
    simpa using hq.1.1
   cases hxn:x == n with
   | true =>
    have:x=n:=by simpa using hxn
    subst this;subst eq
    exact List.mem_cons_self
   | false=>rw [hxn] at h';exact List.mem_cons_of_mem _ (ih h')
  ·rw [if_neg hq,List.lookup_cons] at h'
   cases hxn:x == n with
   | true =>
    rw [hxn] at h'
    have:x=n:=by simpa using hxn
    subst this
    have e:q=k:=Option.some.inj h'
    subst e
    rcases hk with hk | hk
    ·exact absurd hk (hc (x,q) List.mem_cons_self)
    ·subst hk;exact List.mem_cons_self
   | false=>rw [hxn] at h';exact List.mem_cons_of_mem _ (ih h')
theorem fZ {env:Env} {x:Str}:∀ {names:List (Str × NameKind)},names.lookup x=some .free ->
  (names.map fun (n,k)=>if (k == NameKind.free && env.scope.kind == .function && env.kindOf n == some .cell) then (n,NameKind.cell) else (n,k)).lookup x=some .cell \/
  (names.map fun (n,k)=>if (k == NameKind.free && env.scope.kind == .function && env.kindOf n == some .cell) then (n,NameKind.cell) else (n,k)).lookup x=some .free
 | [],h=>by simp at h
 | (n,q) :: r,h=>by
  have ih:=fZ (env:=env) (x:=x) (names:=r)
  show List.lookup x ((if (q == NameKind.free && env.scope.kind == .function && env.kindOf n == some .cell)=true then (n,NameKind.cell) else (n,q)) :: _)=some .cell \/
   List.lookup x ((if (q == NameKind.free && env.scope.kind == .function && env.kindOf n == some .cell)=true then (n,NameKind.cell) else (n,q)) :: _)=some .free
  rw [List.lookup_cons] at h
  by_cases hq:(q == NameKind.free && env.scope.kind == .function && env.kindOf n == some .cell)=true
  ·rw [if_pos hq,List.lookup_cons]
   cases hxn:x == n with
   | true=>exact .inl rfl
   | false=>rw [hxn] at h;exact ih h
  ·rw [if_neg hq,List.lookup_cons]
   cases hxn:x == n with
   | true=>rw [hxn] at h;exact .inr h
   | false=>rw [hxn] at h;exact ih h
def cV (X:Cx) (scope:Scope) (C:Addr) (N':List Str) (fp:List Addr) (s₁ : Shared) (H₁ : Hp):Cx where
 prog:=X.prog
 w:=X.w
 K:=X.K
 mg:=X.mg
 base:=X.base
 A:=X.A
 N:=N'
 bO:=s₁
 kb:=H₁
 env:=compEnvC scope (eY X.env.cells scope.names []) C X.env
 outer:=X.stack
 stack:=X.stack
 ex:=fp
 fn:=fun _=>false
 calm:=X.calm
 pn:=[]
 xe:=fun _ _=>False
def du (X:Cx) (scope:Scope):List Str->List Nat->Prop
 | [],[]=>True
 | x :: fr,j :: js=>(X.N[j]? = some x/\(X.env.kindOf x=some .cell\/X.env.kindOf x=some .free)/\scope.names.lookup x=some .free)/\du X scope fr js
 | _,_=>False
theorem du.len {X:Cx} {scope:Scope}:∀ {fr:List Str} {js:List Nat},du X scope fr js->fr.length=js.length
 | [],[],_=>rfl
 | _ :: _,_ :: _,h=>by simp [du.len h.2]
 | [],_ :: _,h=>h.elim
 | _ :: _,[],h=>h.elim
theorem du.mem {X:Cx} {scope:Scope} {x:Str}:∀ {fr:List Str} {js:List Nat},du X scope fr js->x ∈ fr->X.env.kindOf x=some .cell\/X.env.kindOf x=some .free
 | [],[],_,h=>by cases h
 | a :: fr,b :: js,h,hm=>by
  rcases List.mem_cons.mp hm with rfl | hm
  ·exact h.1.2.1
  ·exact du.mem h.2 hm
 | [],_ :: _,h,_=>h.elim
 | _ :: _,[],h,_=>h.elim
theorem du.get {X:Cx} {scope:Scope}:∀ {fr:List Str} {js:List Nat} {i:Nat} {x:Str} {j:Nat},du X scope fr js->fr[i]? = some x->js[i]? = some j ->
  X.N[j]? = some x/\(X.env.kindOf x=some .cell\/X.env.kindOf x=some .free)/\scope.names.lookup x=some .free
 | [],[],_,_,_,_,h,_=>by simp at h
 | a :: fr,b :: js,0,x,j,h,h1,h2=>by
  simp at h1 h2
  subst h1;subst h2
  exact h.1
 | a :: fr,b :: js,i+1,x,j,h,h1,h2=>du.get h.2 (by simpa using h1) (by simpa using h2)
 | [],_ :: _,_,_,_,h,_,_=>h.elim
 | _ :: _,[],_,_,_,h,_,_=>h.elim
def jL (n:Nat) (js:List Nat) (σ : St):St:=List.replicate n none++js.map fun j=>σ.getD j none
theorem tK {X:Cx} {pins:List (Addr × Obj)} {σ : St} {H:Hp} {s:Shared} {scope:Scope} {fp:List Addr} {C:Addr} {N':List Str} (I:Inv X pins σ H s) (hk:scope.kind=.function) (hcell:∀ y ∈ scope.names,y.2 ≠ .cell)
  (hf:∀ y ∈ scope.names,y.2=.free->∃ c,X.env.cells.lookup y.1=some c) (hC:s.heap.objs.size<=C) (hfp:∀ b ∈ fp,d9 X pins H b) (hlt:∀ b ∈ fp,b < s.heap.objs.size):(cV X scope C N' fp s H).Ok:=by
 have ag:∀ x c,(eY X.env.cells scope.names []).lookup x=some c->X.env.cells.lookup x=some c:=fY scope.names [] hf fun x c e=>by simp at e
 refine⟨I.ok.mod,hk,I.ok.glob,I.ok.blt,hC,fun x y c h1 h2=>I.ok.inj x y c (ag x c h1) (ag y c h2),fun x hx=>?_,(fun x c h=>(by cases h)),I.ok.hd,I.ok.frames,.inl rfl,fun b hb=>?_,I.bs,?_,fun b o e hb=>?_,fun b hb=>?_,I.stack,I.mf⟩
 ·refine ji scope.names [] (.inl ?_)
  rcases hx with hx | hx
  ·exact en (.inl rfl) hcell hx
  ·exact en (.inr rfl) hcell hx
 ·obtain⟨h1,h2,h3,h4,h5,h6⟩:=hfp b hb
  exact⟨Nat.ne_of_lt (Nat.lt_of_lt_of_le (hlt b hb) hC),fun x c e=>h5 x c (ag x c e)⟩
 ·exact Nat.le_trans I.ok.jC I.sz
 ·obtain⟨h1,h2,h3,h4,h5,h6⟩:=hfp b hb
  rcases h4 with h4 | h4
  ·exact I.ok.kc b o e h4
  ·exact absurd (Nat.lt_of_lt_of_le (Heap.lt_size e) (Nat.le_trans I.ok.jC h4)) (Nat.lt_irrefl _)
 ·obtain⟨h1,h2,h3,h4,h5,h6⟩:=hfp b hb
  intro z
  rcases List.mem_cons.mp (I.iK b z) with z | z
  ·exact h2 z
  ·exact h3 z
def qS (J:It) (n:Nat) (js:List Nat) (g:TG) (ct:TT) (te:TE) (acc:Addr) (σ : St) (H1:Hp) (Q:VK):Prop :=
 ∃ W:Nat->Nat->List V->St->Hp->Prop,(∃ m,W 0 m [] (jL n js σ) (upd H1 acc (.lst [])))/\∀ i m ys τ H2,W i m ys τ H2->H2 acc=some (.lst ys)/\ys.length < sizeLine /\
  ((J.stop i H2/\Q (.ref acc) H2)\/(J.go i H2/\∃ N:List V->St->Hp->Prop,(∀ ys' τ' H',N ys' τ' H'->∃ m',m' < m/\W (i+1) m' ys' τ' H')/\∀ x H3,J.mn i H2 x H3->g x τ H3 fun τ1 H4=>ct τ1 H4 fun b H5 =>
   if b=true then te τ1 H5 fun y H6=>H6 acc=some (.lst ys)/\N (ys ++ [y]) τ1 (upd H6 acc (.lst (ys ++ [y]))) else N ys τ1 H5))
def uK (n:Nat) (js:List Nat) (wi:TI) (g:TG) (ct:TT) (te:TE):TE:=fun σ H Q=>wi σ H fun J H1=>∀ acc,H1 acc=none->qS J n js g ct te acc σ H1 Q
def oH (X:Cx) (ifs:List Expr) (t:TT):Prop :=
 ∀ (pins:List (Addr × Obj)) (s:Shared) (σ : St) (H:Hp) (Q:Bool->Hp->Prop),Inv X pins σ H s->t σ H Q ->
  wpAny (model X.prog X.w) X.A (forIn ifs true fun c r=>if r=true then do let ok <-isTrue c X.env (eval c X.env);pure (ForInStep.yield ok) else pure (ForInStep.yield r)) (TP X pins σ Q) X.xe s
def tL:TT:=fun _ H Q=>Q true H
theorem gK {X:Cx}:oH X [] tL:=fun _ _ σ H Q I h=>wpAny_pure ⟨H,I,h⟩
theorem rG {X:Cx} {c:Expr} {t:TT} (h:PT X c t):oH X [c] t:=by
 intro pins s σ H Q I q
 rw [List.forIn_cons]
 simp only [if_true,bind_assoc,pure_bind]
 refine wpAny_bind (aK (h pins s σ H Q I q) fun b s1 h1=>?_)
 exact wpAny_pure h1
section
variable {X:Cx} {pos:Pos}
theorem fK {prog:Program} {w:World} {A:Around} {R:Result->Shared->Prop} {s:Shared} {elt target iter:Expr} {ifs:List Expr} {scope:Scope} {pos:Pos} {it acc:Value} {env:Env} (I:Nat->Shared->Prop)
  (turn:∀ n s,I n s->wpAny (model prog w) A (pyNext it) (fun r s₁=>match r with
   | none=>R (.ok .next) s₁
   | some v=>wpAny (model prog w) A (letOwnedTupleGo target it v) (fun _ s₁'=>wpAny (model prog w) A (assign target env v) (fun _ s₂ =>
     wpAny (model prog w) A (forIn ifs true fun c r=>if r=true then do let ok <-isTrue c env (eval c env);pure (ForInStep.yield ok) else pure (ForInStep.yield r)) (fun ok s₃ =>
      if ok=true then wpAny (model prog w) A (eval elt env) (fun x s₄ =>
       wpAny (model prog w) A (call (.builtin "list.append") [acc,x]) (fun _ s₅=>∃ m,m < n/\I m s₅) (fun _ _=>False) s₄) (fun _ _=>False) s₃
      else ∃ m,m < n/\I m s₃) (fun _ _=>False) s₂) (fun _ _=>False) s₁') (fun _ _=>False) s₁) (fun _ _=>False) s)
  (n:Nat) (h:I n s) :
  codeAny (model prog w) A (.compLoop (.ListComp elt [⟨target,iter,ifs,0⟩] scope pos) 0 it acc env) R s:=by
 refine codeAny_loop rfl I (fun n s hI=>?_) n h
 show wpAny _ A ((compTurn (.ListComp elt [⟨target,iter,ifs,0⟩] scope pos) 0 it acc env).onRaise (fun x=>do noteFrame x env;theTreesLotGoes x)) _ _ s
 refine wpAny_noted ?_
 rw [compTurn_list]
 refine wpAny_bind (wpAny_standAt (wpAny_bind (wpAny_mono (turn n s hI) (fun r s₁ h₁=>?_) fun _ _ h'=>h'.elim)))
 cases r with
 | none=>exact wpAny_pure h₁
 | some v =>
  refine wpAny_bind (wpAny_mono h₁ (fun _ s₁' h₁'=>?_) fun _ _ h'=>h'.elim)
  refine wpAny_bind (wpAny_mono h₁' (fun _ s₂ h₂=>wpAny_bind (wpAny_mono h₂ (fun ok s₃ h₃=>?_) fun _ _ h'=>h'.elim)) fun _ _ h'=>h'.elim)
  cases ok with
  | false=>exact wpAny_pure ⟨rfl,h₃⟩
  | true =>
   exact wpAny_bind (wpAny_bind (wpAny_mono h₃ (fun x s₄ h₄=>wpAny_bind (wpAny_mono h₄ (fun _ s₅ h₅=>wpAny_pure (wpAny_pure ⟨rfl,h₅⟩)) fun _ _ h'=>h'.elim)) fun _ _ h'=>h'.elim))
theorem mG {pins:List (Addr × Obj)} {σ : St} {H:Hp} {s:Shared} {E:Value->Shared->Prop} {tg elt iter:Expr} {ifs:List Expr} {scope:Scope} {g:TG} {ct:TT} {te:TE} {ts fr:List Str} {js:List Nat}
    {it:Addr} {fp:List Addr} {tn:Nat->Heap->Prop} {J:It} {Q:VK} {RR:Value->Addr->Result->Shared->Prop}
    (hc:X.calm=true) (hkind:scope.kind=.function) (hcell:∀ y ∈ scope.names,y.2 ≠ .cell) (hfree:∀ y ∈ scope.names,y.2=.free->X.env.kindOf y.1=some .cell\/X.env.kindOf y.1=some .free)
    (hfr:du X scope fr js) (htg:∀ C fp s₁ H₁,PG (cV X scope C (ts++fr) fp s₁ H₁) tg g) (hct:∀ C fp s₁ H₁,oH (cV X scope C (ts++fr) fp s₁ H₁) ifs ct) (hte:∀ C fp s₁ H₁,PE (cV X scope C (ts++fr) fp s₁ H₁) elt te)
    (I:Inv X pins σ H s) (T:Turn X.prog X.w X.K tg J fp it tn) (st:tn 0 s.heap) (hfp:∀ b ∈ fp,d9 X pins H b)
    (h:∀ acc,H acc=none->qS J ts.length js g ct te acc σ H Q)
    (hRR:∀ acc C H' s' m,Inv X pins σ H' s'->s'.heap.Ns C m->H' C=none->s.heap.objs.size<=C->Q (.ref acc) H'->RR (.ref acc) C (.ok .next) s') :
    wpAny (model X.prog X.w) X.A (newList []) (fun acc s₃=>wpAny (model X.prog X.w) X.A (newFunctionEnv scope X.env.globals (eY X.env.cells scope.names []) [] X.env.qual none .none (some X.env)) (fun cenv s₄ =>
      codeAny (model X.prog X.w) X.A (.compStart (.ListComp elt [⟨tg,iter,ifs,0⟩] scope pos) 0 (.ref it) acc { cenv with scope:=relabel scope X.env }) (RR acc cenv.locals) s₄) E s₃) E s:=by
  have hf:∀ y ∈ scope.names,y.2=.free->∃ c,X.env.cells.lookup y.1=some c:=fun y hy e=>I.ok.has y.1 (hfree y hy e)
  have ag:∀ x c,(eY X.env.cells scope.names []).lookup x=some c->X.env.cells.lookup x=some c:=fY scope.names [] hf fun x c e=>by simp at e
  have hlt:∀ b ∈ fp,b < s.heap.objs.size:=fun b hb=>by
    obtain⟨o,e,_⟩:=T.obj _ _ st b hb
    exact Heap.lt_size e
  refine wpAny_newObj_type (wpAny_newFunctionEnv hcell (by intro y hy;simp at hy) (fun h₁ hns₁ hsb₁=>?_) hkind)
  dsimp only at hns₁ hsb₁ ⊢
  generalize hH2:s.heap.push { cls:=.type "list",dict:=none,data:=.seq ([]:List Value).toArray }=G2 at hns₁ hsb₁ ⊢
  have hC:G2.objs.size=s.heap.objs.size+1:=by rw [<-hH2,Heap.size_push]
  have hDC:s.heap.objs.size ≠ G2.objs.size:=by rw [hC];exact Nat.ne_of_lt (Nat.lt_succ_self _)
  have hCle:s.heap.objs.size<=G2.objs.size:=by rw [hC];exact Nat.le_succ _
  have below:∀ b,b < s.heap.objs.size->b ≠ G2.objs.size/\b ≠ s.heap.objs.size:=fun b hb=>⟨by rw [hC];exact Nat.ne_of_lt (Nat.lt_succ_of_lt hb),Nat.ne_of_lt hb⟩
  have old:∀ b o,s.heap.get? b=some o->h₁.get? b=some o:=fun b o e=>hsb₁.extBut b o (below b (Heap.lt_size e)).1 (Heap.get?_push_of_some _ (hH2 ▸ Heap.get?_push_of_some _ e))
  have hacc:h₁.get? s.heap.objs.size=some { cls:=.type "list",data:=.seq ([]:List Value).toArray }:=hsb₁.extBut _ _ hDC (Heap.get?_push_of_some _ (hH2 ▸ Heap.get?_push_size _ rfl))
  have nD:H s.heap.objs.size=none:=I.av.fresh (Nat.le_refl _)
  have nC:H G2.objs.size=none:=I.av.fresh hCle
  obtain⟨W,⟨m0,w0⟩,turn⟩:=h s.heap.objs.size nD
  generalize hXb:cV X scope G2.objs.size (ts++fr) fp s H=Xb
  have Ib:∀ tk,Inv Xb [] (jL ts.length js σ) (upd H s.heap.objs.size (.lst [])) { s with heap:=h₁,toks:=tk }:=by
    intro tk
    subst hXb
    refine⟨tK I hkind hcell hf hCle hfp hlt,rfl,I.bare,Un.laid old (Nat.le_refl _) nD,⟨_,hns₁,fun i x v e1 e2 e3=>?_⟩,fun x c e=>?_,?_,fun x c e=>?_,fun p hp=>absurd (show p ∈ ([]:List (Addr × Obj)) from hp) (by simp),I.av.laid old (Nat.le_refl _) ⟨by show 0<=sizeLine;decide,[],_,.nil,hacc⟩,?_⟩
    · have hi:ts.length<=i:=by
        refine Nat.le_of_not_lt fun hi=>?_
        unfold jL at e2
        rw [List.getElem?_append_left (by simpa using hi),List.getElem?_replicate] at e2
        split at e2 <;> cases e2
      have e1':fr[i - ts.length]? = some x:=by
        have e1'':(ts++fr)[i]? = some x:=e1
        rw [List.getElem?_append_right hi] at e1''
        exact e1''
      unfold jL at e2
      rw [List.getElem?_append_right (by simpa using hi),List.length_replicate,List.getElem?_map] at e2
      cases ej:js[i - ts.length]? with
      | none=>rw [ej] at e2;cases e2
      | some j =>
        rw [ej] at e2
        have e2':σ.getD j none=some v:=by simpa using e2
        obtain⟨q1,q2,q3⟩:=hfr.get e1' ej
        have e2'':σ[j]? = some (some v):=by
          rw [List.getD_eq_getElem?_getD] at e2'
          cases ez:σ[j]? with
          | none=>rw [ez] at e2';cases e2'
          | some z=>rw [ez] at e2';rw [show z=some v from e2']
        obtain⟨m,hn,hl⟩:=I.loc
        obtain⟨u,r,l⟩:=hl j x v q1 e2'' (by
          rcases q2 with q2 | q2
          · exact .inr (.inl q2)
          · exact .inr (.inr q2))
        refine⟨u,r,.inr ⟨fZ q3,?_⟩⟩
        rcases l with ⟨l,_⟩ | ⟨_,c,lc,lv⟩
        · rcases q2 with q2 | q2 <;> (rw [l] at q2;cases q2)
        · obtain⟨c',hc'⟩:=ji (cells:=X.env.cells) scope.names [] (.inl (PySem.mem_of_lookup q3))
          have:=ag x c' hc'
          rw [lc] at this
          cases this
          obtain⟨o,ho,hd⟩:=lv
          exact⟨c,hc',o,old _ _ ho,hd⟩
    · obtain⟨v,o,ho,hd⟩:=I.cell x c (ag x c e)
      exact⟨v,o,old _ _ ho,hd⟩
    · show upd H s.heap.objs.size (.lst []) G2.objs.size=none
      rw [ae hDC.symm];exact nC
    · obtain⟨v,o,ho,hd⟩:=I.cell x c (ag x c e)
      rw [ae (Nat.ne_of_lt (Heap.lt_size ho))]
      exact I.cI x c (ag x c e)
    · show (jL ts.length js σ).length=(ts++fr).length
      unfold jL
      rw [List.length_append,List.length_replicate,List.length_map,List.length_append,hfr.len]
  have fpB:∀ {H':Hp},(∀ b ∈ fp,H' b=none)->∀ b ∈ fp,d9 Xb [] H' b:=fun {H'} hn b hb=>by
    subst hXb
    obtain⟨h1,h2,h3,h4,h5,h6⟩:=hfp b hb
    refine⟨hn b hb,(below b (hlt b hb)).1,fun z=>?_,.inl hb,fun x c e=>h5 x c (ag x c e),fun p hp=>absurd (show p ∈ ([]:List (Addr × Obj)) from hp) (by simp)⟩
    rcases List.mem_cons.mp (I.iK b z) with z | z
    · exact h2 z
    · exact h3 z
  have fin:∀ {τ : St} {H':Hp} {s':Shared},Inv Xb [] τ H' s'->Q (.ref s.heap.objs.size) H'->RR (.ref s.heap.objs.size) G2.objs.size (.ok .next) s':=fun {τ H' s'} Jb q=>by
    subst hXb
    obtain⟨m,hn,_⟩:=Jb.loc
    refine hRR _ _ H' s' m (I.ud (ch:=fp) Jb.os Jb.base Jb.av Jb.bare fun b hb=>?_) hn Jb.free hCle q
    obtain⟨h1,h2,h3,h4,h5,h6⟩:=hfp b hb
    exact⟨h4,h2,h5,h6⟩
  have loop:∀ tk,codeAny (model X.prog X.w) X.A (.compLoop (.ListComp elt [⟨tg,iter,ifs,0⟩] scope pos) 0 (.ref it) (.ref s.heap.objs.size) (compEnvC scope (eY X.env.cells scope.names []) G2.objs.size X.env))
        (RR (.ref s.heap.objs.size) G2.objs.size) { s with heap:=h₁,toks:=tk }:=by
    intro tk
    refine fK (fun n s'=>∃ i ys τ H',Inv Xb [] τ H' s'/\tn i s'.heap/\(∀ b ∈ fp,H' b=none)/\W i n ys τ H') ?_ m0 ⟨0,[],_,_,Ib tk,T.keep _ _ _ st fun b hb o e=>old b o e,fun b hb=>?_,w0⟩
    · rintro n s3 ⟨i,ys,τ,H3,I3,st3,fr3,w3⟩
      have htg':=htg G2.objs.size fp s H
      have hct':=hct G2.objs.size fp s H
      have hte':=hte G2.objs.size fp s H
      rw [hXb] at htg' hct' hte'
      have eP:Xb.prog=X.prog:=by subst hXb;rfl
      have ew:Xb.w=X.w:=by subst hXb;rfl
      have eK:Xb.K=X.K:=by subst hXb;rfl
      have eA:Xb.A=X.A:=by subst hXb;rfl
      have ec:Xb.calm=true:=by subst hXb;exact hc
      have ee:Xb.env=compEnvC scope (eY X.env.cells scope.names []) G2.objs.size X.env:=by subst hXb;rfl
      have ex:Xb.xe=fun _ _=>False:=by subst hXb;rfl
      rw [<-eP,<-ew,<-eA,<-ee]
      obtain⟨ha,hl,turn'⟩:=turn i n ys τ H3 w3
      rcases turn' with ⟨stop,q⟩ | ⟨go,N,hN,step⟩
      · have hd:=T.done Xb eP ew eK ec i [] s3 τ H3 (fun _ _=>False) I3 (fpB fr3) st3 stop
        rw [<-eP,<-ew] at hd
        refine wpAny_mono hd (fun r s4 hr4=>?_) fun _ _ z=>z
        obtain⟨hr,I4⟩:=hr4
        subst hr
        exact fin I4 q
      · have hd:=T.item Xb eP ew eK ec i [] s3 τ H3 (fun _ _=>False) I3 (fpB fr3) st3 go
        rw [<-eP,<-ew] at hd
        refine wpAny_mono hd (fun r s4 hr4=>?_) fun _ _ z=>z
        obtain⟨u,hr,h4⟩:=hr4
        subst hr
        refine wpAny_mono h4 (fun _ s5 ⟨x,H5,I5,r5,y5,st5,fr5⟩=>?_) fun _ _ z=>z
        have I5':=I5.pinned (fpB fr5) (T.obj _ _ st5)
        have keepT:∀ {σ7:St} {H7:Hp} {s7:Shared},Inv Xb ([] ++ fT fp s5.heap) σ7 H7 s7->tn (i+1) s7.heap/\∀ b ∈ fp,H7 b=none:=fun {σ7 H7 s7} I7=>by
          refine⟨T.keep _ _ _ st5 fun b hb o e=>(I7.pin (b,o) (List.mem_append_right _ (List.mem_append_right _ (dU hb e)))).1,fun b hb=>?_⟩
          obtain⟨o,e,d⟩:=T.obj _ _ st5 b hb
          exact (I7.pin (b,o) (List.mem_append_right _ (List.mem_append_right _ (dU hb e)))).2.1
        refine wpAny_mono (htg' _ s5 τ H5 x u _ I5' r5 (step x H5 y5)) (fun _ s6 ⟨τ6,H6,I6,q6⟩=>?_) (fun _ _ z=>by rw [ex] at z;exact z)
        refine wpAny_mono (hct' _ s6 τ6 H6 _ I6 q6) (fun ok s7 ⟨H7,I7,q7⟩=>?_) (fun _ _ z=>by rw [ex] at z;exact z)
        cases ok with
        | false =>
          have q7':N ys τ6 H7:=by rw [if_neg (by simp)] at q7;exact q7
          rw [if_neg (by simp)]
          obtain⟨m',hm,w7⟩:=hN _ _ _ q7'
          exact⟨m',hm,i+1,ys,τ6,H7,I7.ef,(keepT I7).1,(keepT I7).2,w7⟩
        | true =>
          rw [if_pos rfl] at q7 ⊢
          refine wpAny_mono (hte' _ s7 τ6 H7 _ I7 q7) (fun v s8 ⟨y,H8,I8,r8,ha8,n8⟩=>?_) (fun _ _ z=>by rw [ex] at z;exact z)
          refine wpAny_mono (cN (X:=Xb) _ s8 τ6 H8 (.ref s.heap.objs.size) [y] (.ref s.heap.objs.size) [v] (fun _ H9=>H9=upd H8 s.heap.objs.size (.lst (ys ++ [y]))) I8 rfl (.cons r8 .nil) ⟨_,ys,y,rfl,rfl,ha8,hl,rfl⟩) (fun _ s9 ⟨_,H9,I9,_,e9⟩=>?_) (fun _ _ z=>by rw [ex] at z;exact z)
          subst e9
          obtain⟨m',hm,w8⟩:=hN _ _ _ n8
          exact⟨m',hm,i+1,_,τ6,_,I9.ef,(keepT I9).1,(keepT I9).2,w8⟩
    · rw [ae (Nat.ne_of_lt (hlt b hb))]
      exact (hfp b hb).1
  exact codeAny_compStart_list (loop _) (T.self _ 0 _ _ _ (T.keep _ _ _ st fun b hb o e=>old b o e) (loop _))
theorem Inv.oJ {pins:List (Addr × Obj)} {σ : St} {H H':Hp} {s s':Shared} {C:Addr} {h':Heap} (I:Inv X pins σ H s) {σ':St} (I':Inv X pins σ' H' s') (hC:H' C=none) (hle:s.heap.objs.size<=C) (hsb:Heap.SameBut C s'.heap h') :
  Inv X pins σ' H' { s' with heap:=h' }:=by
 obtain⟨h1,h2,h3,h4,h5,h6⟩:=I.jd (H':=H') hle hC
 exact I'.turned (t':=s'.toks) (fun b o hb e=>hsb.extBut b o hb e) hC h2 h4 h5 h6
theorem fk {tg elt iter:Expr} {ifs:List Expr} {scope:Scope} {wi:TI} {g:TG} {ct:TT} {te:TE} (ts fr:List Str) (js:List Nat)
  (hc:X.calm=true) (hi:PI X tg iter wi) (hkind:scope.kind=.function) (hcell:∀ y ∈ scope.names,y.2 ≠ .cell) (hnames:∀ y ∈ scope.names,y.2=.local->scope.names.lookup y.1=some .local)
  (hfree0:∀ y ∈ scope.names,y.2=.free->y.1 ∈ fr) (hfr:du X scope fr js)
  (htg:∀ C fp s₁ H₁,PG (cV X scope C (ts++fr) fp s₁ H₁) tg g) (hct:∀ C fp s₁ H₁,oH (cV X scope C (ts++fr) fp s₁ H₁) ifs ct) (hte:∀ C fp s₁ H₁,PE (cV X scope C (ts++fr) fp s₁ H₁) elt te)
  (hs:∀ x,foldedSetIterable iter X.env x=pure x:=by intro _;rfl):PE X (.ListComp elt [⟨tg,iter,ifs,0⟩] scope pos) (uK ts.length js wi g ct te):=by
 have hfree:∀ y ∈ scope.names,y.2=.free->X.env.kindOf y.1=some .cell\/X.env.kindOf y.1=some .free:=fun y hy e=>hfr.mem (hfree0 y hy e)
 intro pins s σ H Q I h
 rw [eval_ListComp]
 refine wpAny_comprehension_free (use:=none) rfl hs (iU fun y hy e=>I.ok.has y.1 (hfree y hy e)) hkind hnames (aK (hi pins s σ H _ I h) fun xv s1 h1=>aK h1 fun itv s2 h2=>?_)
 obtain⟨it,fp,tn,J,H2,e,I2,T,st2,f2,hW⟩:=h2
 subst e
 refine mG (RR:=fun acc C=>compPost (model X.prog X.w) X.A X.xe none (EP X pins σ Q) acc C) hc hkind hcell hfree hfr htg hct hte I2 T st2 f2 hW ?_
 intro acc C H' s' m I' hn hC hle q
 exact⟨m,hn,fun h' hsb=>⟨.ref acc,H',I2.oJ I' hC hle hsb,rfl,q⟩⟩
theorem qe {tg elt iter:Expr} {ifs:List Expr} {scope:Scope} {wi:TI} {g:TG} {ct:TT} {te:TE} {i:Nat} {y:Str} {py spos:Pos} (ts fr:List Str) (js:List Nat)
  (hsw:swapsWith (.ListComp elt [⟨tg,iter,ifs,0⟩] scope pos) (some (.Name y py)) spos.line X.env=pure true) (hN:X.N.Nodup) (hi0:X.N[i]? = some y) (hx:X.env.scope.names.lookup y=some .local)
  (hc:X.calm=true) (hi:PI X tg iter wi) (hkind:scope.kind=.function) (hcell:∀ y ∈ scope.names,y.2 ≠ .cell) (hnames:∀ y ∈ scope.names,y.2=.local->scope.names.lookup y.1=some .local)
  (hfree0:∀ y ∈ scope.names,y.2=.free->y.1 ∈ fr) (hfr:du X scope fr js)
  (htg:∀ C fp s₁ H₁,PG (cV X scope C (ts++fr) fp s₁ H₁) tg g) (hct:∀ C fp s₁ H₁,oH (cV X scope C (ts++fr) fp s₁ H₁) ifs ct) (hte:∀ C fp s₁ H₁,PE (cV X scope C (ts++fr) fp s₁ H₁) elt te)
  (hs:∀ x,foldedSetIterable iter X.env x=pure x:=by intro _;rfl):PS X (.Assign [.Name y py] (.ListComp elt [⟨tg,iter,ifs,0⟩] scope pos) spos) (m8 (uK ts.length js wi g ct te) (gH i)):=by
 have hfree:∀ y ∈ scope.names,y.2=.free->X.env.kindOf y.1=some .cell\/X.env.kindOf y.1=some .free:=fun y hy e=>hfr.mem (hfree0 y hy e)
 intro pins s σ H D I h
 rw [exec_Assign_Name_used _ _ _ _ hsw]
 refine wpAny_bind (wpAny_standAt (wpAny_bind ?_))
 show wpAny _ X.A (do let _ <-comprehension (.ListComp elt [⟨tg,iter,ifs,0⟩] scope pos) scope X.env _ (newList []) false (eval iter X.env) (some (assign (.Name y py) X.env))) _ _ s
 refine wpAny_bind (wpAny_mono (wpAny_comprehension_free (use:=some (assign (.Name y py) X.env)) (Q:=fun _ s'=>SP X pins D .next s') rfl hs (iU fun y hy e=>I.ok.has y.1 (hfree y hy e)) hkind hnames
  (aK (hi pins s σ H _ I h) fun xv s1 h1=>aK h1 fun itv s2 h2=>?_)) (fun _ s' hq=>wpAny_pure (wpAny_pure hq)) fun _ _ e=>e)
 obtain⟨it,fp,tn,J,H2,e,I2,T,st2,f2,hW⟩:=h2
 subst e
 refine mG (Q:=fun v H'=>D.nx (σ.set i (some v)) H') (RR:=fun acc C=>compPost (model X.prog X.w) X.A X.xe (some (assign (.Name y py) X.env)) (fun _ s'=>SP X pins D .next s') acc C) hc hkind hcell hfree hfr htg hct hte I2 T st2 f2 hW ?_
 intro acc C H' s' m I' hn hC hle q
 show wpAny _ X.A (assign (.Name y py) X.env (.ref acc)) _ _ _
 refine wpAny_assign_Name (jE I' hN hi0 (.inl hx) (v:=.ref acc) rfl (fun s'' I'' hch=>?_) (.inr hx))
 obtain⟨h1,h2,h3,h4,h5,h6⟩:=I2.jd (H':=H') hle hC
 obtain⟨a,hsb,ha⟩:=hch
 refine⟨m,hn.sameBut hsb ?_,fun h' hsb'=>⟨_,H',I2.oJ I'' hC hle hsb',q⟩⟩
 rcases ha with ha | ha
 ·rw [ha];exact h2
 ·exact fun z=>h5 y a ha z.symm
end
theorem fm {lo:Int} {k:Nat} {acc:Addr} {n:Nat} {js:List Nat} {g:TG} {ct:TT} {te:TE} {σ : St} {H1:Hp} {Q:VK} (Pv:Nat->List V->St->Hp->Prop) (h0:Pv 0 [] (jL n js σ) (upd H1 acc (.lst [])))
  (hl:∀ i ys τ H,i<=k->Pv i ys τ H->H acc=some (.lst ys)/\ys.length < sizeLine)
  (hs:∀ i ys τ H,i < k->Pv i ys τ H->g (.int (lo+i)) τ H fun τ1 H4=>ct τ1 H4 fun b H5=>if b=true then te τ1 H5 fun y H6=>H6 acc=some (.lst ys)/\Pv (i+1) (ys ++ [y]) τ1 (upd H6 acc (.lst (ys ++ [y]))) else Pv (i+1) ys τ1 H5)
  (hd:∀ ys τ H,Pv k ys τ H->Q (.ref acc) H) :
  qS (km lo k) n js g ct te acc σ H1 Q:=by
 refine⟨fun i m ys τ H=>m=k - i/\i<=k/\Pv i ys τ H,⟨k,by simp,Nat.zero_le _,h0⟩,?_⟩
 rintro i m ys τ H ⟨rfl,hi,p⟩
 obtain⟨q2,q3⟩:=hl i ys τ H hi p
 refine⟨q2,q3,?_⟩
 by_cases hlt:i < k
 ·refine .inr ⟨hlt,Pv (i+1),fun ys' τ' H' p'=>⟨k - (i+1),by omega,rfl,hlt,p'⟩,fun x H' y=>?_⟩
  obtain⟨e,y⟩:=y
  subst e y
  exact hs i ys τ _ hlt p
 ·have e:i=k:=by omega
  subst e
  exact .inl ⟨Nat.le_refl _,hd ys τ H p⟩
section
variable {X:Cx}
end
def vg (t:TS):TS:=fun D σ H=>∃ M:St->Hp->Prop,t { D with nx:=M } σ H/\∀ σ' H',M σ' H'->D.nx σ' H'
theorem tM {X:Cx} {st:Stmt} {t:TS} (h:PS X st t):PS X st (vg t):=by
 intro pins s σ H D I q
 obtain⟨M,q,hM⟩:=q
 refine aK (h pins s σ H _ I q) fun f s' hs=>?_
 cases f with
 | next =>
  obtain⟨σ',H',I',m⟩:=hs
  exact⟨σ',H',I',hM _ _ m⟩
 | brk=>exact hs
 | cont=>exact hs
 | ret u=>exact hs
theorem dI {m:Int} (h0:0 < m) (h1:m < 1073741824):m.natAbs.log2 < 9000:=by
 have h:m.natAbs.log2 < 30:=(Nat.log2_lt (by omega)).mpr (by omega)
 omega
theorem rH {X:Cx} {K:PySem.W.Frag} {es:List Expr} {k:Nat} {t:kg} {n:Nat} {pos:Pos} (hK:X.K=K) (h:PG X (.Tuple es k pos) (pP X.K n t)):PG X (.Tuple es k pos) (pP K n t):=by
 subst hK
 exact h
mutual
inductive aI (H:Hp):V->PyData->Prop
 | bo:aI H .bo .none
 | bl (b:Bool):aI H (.bl b) (.bool b)
 | int (i:Int):aI H (.int i) (.int i)
 | str (x:Str):aI H (.str x) (.str x)
 | lst {p:Addr} {xs:List V} {ds:List PyData}:H p=some (.lst xs)->aH H xs ds->aI H (.ref p) (.list ds)
 | tup {p:Addr} {xs:List V} {ds:List PyData}:H p=some (.tup xs)->aH H xs ds->aI H (.ref p) (.tuple ds)
inductive aH (H:Hp):List V->List PyData->Prop
 | nil:aH H [] []
 | cons {x:V} {xs:List V} {d:PyData} {ds:List PyData}:aI H x d->aH H xs ds->aH H (x :: xs) (d :: ds)
end
section
variable {P:Program} {w:World} {H:Hp} {h:Heap}
mutual
theorem aI.reads (ok:bN P w H h):∀ {x:V} {d:PyData} {v:Value},aI H x d->RelV x v->∃ as,Reads h v d as
 | _,_,v,.bo,r=>by
  cases (show v=Value.none from r)
  exact⟨_,.none⟩
 | _,_,v,.bl b,r=>by
  cases (show v=Value.bool b from r)
  exact⟨_,.bool b⟩
 | _,_,v,.int i,r=>by
  obtain⟨t,e⟩:=(show ∃ t,v=Value.int i t from r)
  cases e
  exact⟨_,.int i t⟩
 | _,_,v,.str x,r=>by
  obtain⟨t,e⟩:=(show ∃ t,v=Value.str x t from r)
  cases e
  exact⟨_,.str x t⟩
 | _,_,v,.lst (p:=p) (xs:=xs) e ds,r=>by
  cases (show v=Value.ref p from r)
  obtain⟨_,its,n,rv,h1⟩:=(show aU P w H h p (.lst xs) from ok p _ e)
  obtain⟨as,ra⟩:=aH.reads ok ds rv
  exact⟨_,.list (vs:=its.toArray) h1 rfl rfl (by simpa using ra)⟩
 | _,_,v,.tup (p:=p) (xs:=xs) e ds,r=>by
  cases (show v=Value.ref p from r)
  obtain⟨_,its,rv,o,h1,h2,n,h3⟩:=(show aU P w H h p (.tup xs) from ok p _ e)
  obtain⟨as,ra⟩:=aH.reads ok ds rv
  exact⟨_,.tuple (vs:=its.toArray) h1 h2 h3.1 (by simpa using ra)⟩
theorem aH.reads (ok:bN P w H h):∀ {xs:List V} {ds:List PyData} {vs:List Value},aH H xs ds->Vals xs vs->∃ as,ReadsAll h vs ds as
 | _,_,_,.nil,.nil=>⟨_,.nil⟩
 | _,_,_,.cons r rs,.cons q qs=>by
  obtain⟨as,ra⟩:=aI.reads ok r q
  obtain⟨bs,rb⟩:=aH.reads ok rs qs
  exact⟨_,.cons ra rb⟩
end
end
section
variable {X:Cx}
inductive nE (neg:Bool) (x:V) (y:V) (H:Hp) (Q:VK):Prop
 | mk (dx dy:_) (_:aI H x dx) (_:aI H y dy) (_:dx.canLay0=true) (_:dy.canLay0=true) (_:min dx.depth dy.depth<=60) (_:Q (.bl (if neg then !PyData.eqv dx dy else PyData.eqv dx dy)) H)
theorem oM (hu:X.A.units+64 < cLine):cv X (compareOp .Eq) (nE false):=by
 intro pins s σ H x y v u Q I rx ry h
 obtain⟨dx,dy,r1,r2,c1,c2,hd,q⟩:=h
 obtain⟨as,ra⟩:=r1.reads I.av rx
 obtain⟨bs,rb⟩:=r2.reads I.av ry
 exact PySem.SeqAt.compareEq_reads ra rb c1 c2 (by omega) ⟨.bl _,H,I,rfl,q⟩
theorem oO (hu:X.A.units+64 < cLine):cv X (compareOp .NotEq) (nE true):=by
 intro pins s σ H x y v u Q I rx ry h
 obtain⟨dx,dy,r1,r2,c1,c2,hd,q⟩:=h
 obtain⟨as,ra⟩:=r1.reads I.av rx
 obtain⟨bs,rb⟩:=r2.reads I.av ry
 exact PySem.SeqAt.neOverData X.prog X.w X.A X.xe s v u dx dy as bs _ ra rb c1 c2 (by omega) ⟨.bl _,H,I,rfl,q⟩
end
def one (c:Nat):Str:=⟨#[c]⟩
theorem kA (rest:List Str):∀ a:Array Nat,(rest.foldl (fun acc p=>acc++Str.empty.cps++p.cps) a).toList=a.toList++rest.flatMap (·.cps.toList):=by
 induction rest with
 | nil=>intro a;simp
 | cons x r ih =>
  intro a
  rw [List.foldl_cons,ih]
  have e:Str.empty.cps = #[]:=rfl
  simp [e]
theorem join_ones (cs:List Nat):(Txt.join Str.empty (cs.map one)).cps.toList=cs:=by
 cases cs with
 | nil=>rfl
 | cons c r =>
  show (List.foldl (fun acc p=>acc++Str.empty.cps++p.cps) (#[c]:Array Nat) (r.map one)).toList=c :: r
  rw [kA]
  simp only [List.flatMap_map,one]
  simp
theorem qf:Str.ofString "" = Str.empty:=by decide +kernel
theorem nF {ys:List Str}:∀ {us:List Value},Vals (ys.map V.str) us->StrsAre us ys:=by
 induction ys with
 | nil=>intro us r;cases r;exact .nil
 | cons y ys ih =>
  intro us r
  cases r with
  | cons h t =>
   obtain⟨k,e⟩:=h
   subst e
   exact .cons y k (ih t)
section
variable {X:Cx}
inductive rJoin (K:PySem.W.Frag) (x:V) (vs:List V) (H:Hp) (Q:VK):Prop
 | mk (z:Str) (p:Addr) (ys:List Str) (_:x=.str z) (_:vs = [.ref p]) (_:ax K H p (ys.map V.str)) (_:(ys.map (·.length)).sum+ys.length * z.length<=16777216) (_:Q (.str (Txt.join z ys)) H)
theorem mH:tm X "str.join" (rJoin X.K):=by
 intro pins s σ H x vs v us Q I rx rv h
 obtain⟨z,p,ys,rfl,rfl,hS,hz,q⟩:=h
 obtain⟨t,e⟩:=(show ∃ t,v=Value.str z t from rx)
 subst e
 obtain⟨u,rfl,ru⟩:=vals1 rv
 cases (show u=Value.ref p from ru)
 obtain⟨its,rv',pl,_⟩:=I.list hS
 exact join_list pl.isList (by simpa using nF rv') hz fun t' k=>⟨.str _,H,I.tok k,⟨_,rfl⟩,q⟩
end
inductive b7 where
 | put (x:Str) (n:Int)
 | copy (x y:Str)
 | add (x:Str) (n:Int)
 | read (x:Str)
 | tell (x:Str)
inductive End where
 | stop
 | go (p:Nat)
 | dr (less:Bool) (x:Str) (n:Int) (p q:Nat)
abbrev Piece:=List b7 × End
def wT (b:Bool):Str:=if b=true then "less" else "is"
def cD:b7->PyData
 | .put x n=>.tuple [.str "put",.str x,.int n]
 | .copy x y=>.tuple [.str "copy",.str x,.str y]
 | .add x n=>.tuple [.str "add",.str x,.int n]
 | .read x=>.tuple [.str "read",.str x]
 | .tell x=>.tuple [.str "tell",.str x]
def kB:End->PyData
 | .stop=>.tuple [.str "stop"]
 | .go p=>.tuple [.str "go",.int p]
 | .dr b x n p q=>.tuple [.str (wT b),.str x,.int n,.int p,.int q]
def cz (p:Piece):PyData:=.tuple [.tuple (p.1.map cD),kB p.2]
def cW (ps:List Piece):PyData:=.tuple (ps.map cz)
structure cA (x:Str):Prop where
 lo:1<=x.length
 hi:x.length<=8
 az:∀ c ∈ x.cps.toList,97<=c/\c<=122
def fo (n:Int):Prop:=-(10 ^ 40) < n/\n < 10 ^ 40
def eZ (xs:List Str):b7->Prop
 | .put x n=>x ∈ xs/\fo n
 | .copy x y=>x ∈ xs/\y ∈ xs
 | .add x n=>x ∈ xs/\fo n
 | .read x=>x ∈ xs
 | .tell x=>x ∈ xs
def j1 (xs:List Str) (count:Nat):End->Prop
 | .stop=>True
 | .go p=>p < count
 | .dr _ x n p q=>x ∈ xs/\fo n/\p < count/\q < count
structure cE (xs:List Str) (most:Nat) (ps:List Piece):Prop where
 j2:∀ p ∈ ps,p.1.length<=most/\∀ d ∈ p.1,eZ xs d
 ends:∀ p ∈ ps,j1 xs ps.length p.2
mutual
def cB:PyData->Bool
 | .list _=>false
 | .tuple xs=>bT xs
 | _=>true
def bT:List PyData->Bool
 | []=>true
 | x :: xs=>cB x && bT xs
end
mutual
theorem aI.bR {H H':Hp} (k:∀ p xs,H p=some (.tup xs)->H' p=some (.tup xs)):∀ {x:V} {d:PyData},aI H x d->cB d=true->aI H' x d
 | _,_,.bo,_=>.bo
 | _,_,.bl b,_=>.bl b
 | _,_,.int i,_=>.int i
 | _,_,.str x,_=>.str x
 | _,_,.lst _ _,h=>nomatch h
 | _,_,.tup e ds,h=>.tup (k _ _ e) (aH.bR k ds h)
theorem aH.bR {H H':Hp} (k:∀ p xs,H p=some (.tup xs)->H' p=some (.tup xs)):∀ {xs:List V} {ds:List PyData},aH H xs ds->bT ds=true->aH H' xs ds
 | _,_,.nil,_=>.nil
 | _,_,.cons r rs,h=>by
  simp only [bT,Bool.and_eq_true] at h
  exact .cons (aI.bR k r h.1) (aH.bR k rs h.2)
end
theorem aI.fix {b:Addr} {H H':Hp} {x:V} {d:PyData} (r:aI H x d) (hb:bx H b) (f:Fix b H H') (n:cB d=true):aI H' x d :=
 r.bR (fun p xs e=>f p _ e (hb.ky e)) n
theorem aI.same {H H':Hp} {x:V} {d:PyData} (r:aI H x d) (f:ah H H') (n:cB d=true):aI H' x d :=
 r.bR (fun p xs e=>f p _ e) n
theorem aH.fix {b:Addr} {H H':Hp} {xs:List V} {ds:List PyData} (r:aH H xs ds) (hb:bx H b) (f:Fix b H H') (n:bT ds=true):aH H' xs ds :=
 r.bR (fun p xs e=>f p _ e (hb.ky e)) n
theorem aH.same {H H':Hp} {xs:List V} {ds:List PyData} (r:aH H xs ds) (f:ah H H') (n:bT ds=true):aH H' xs ds :=
 r.bR (fun p xs e=>f p _ e) n
theorem aH.put {H:Hp} {xs ys:List V} {ds:List PyData} {l:Addr} {o:HO} (r:aH H xs ds) (hl:H l=some (.lst ys)) (n:bT ds=true):aH (upd H l o) xs ds :=
 r.bR (fun p zs e=>by rw [ae (bU e hl (by intro z;cases z))];exact e) n
theorem aH.app {H:Hp} {x:V} {d:PyData}:∀ {xs:List V} {ds:List PyData},aH H xs ds->aI H x d->aH H (xs ++ [x]) (ds ++ [d])
 | _,_,.nil,q=>.cons q .nil
 | _,_,.cons r rs,q=>.cons r (aH.app rs q)
theorem aH.len {H:Hp}:∀ {xs:List V} {ds:List PyData},aH H xs ds->xs.length=ds.length
 | _,_,.nil=>rfl
 | _,_,.cons _ rs=>by simp [aH.len rs]
theorem eO (d:b7):cB (cD d)=true:=by cases d <;> rfl
theorem dX (e:End):cB (kB e)=true:=by cases e <;> rfl
theorem aY:∀ ds:List b7,bT (ds.map cD)=true
 | []=>rfl
 | d :: ds=>by show (cB (cD d) && bT (ds.map cD))=true;rw [eO,aY ds];rfl
theorem eC (p:Piece):cB (cz p)=true:=by
 show (bT (p.1.map cD) && (cB (kB p.2) && true))=true
 rw [aY,dX];rfl
theorem aS:∀ ps:List Piece,bT (ps.map cz)=true
 | []=>rfl
 | p :: ps=>by show (cB (cz p) && bT (ps.map cz))=true;rw [eC,aS ps];rfl
theorem eQ (ps:List Piece):cB (cW ps)=true:=aS ps
structure b8 (H:Hp) (b l:Addr) (xs:List Str):Prop where
 at_:H l=some (.lst (xs.map V.str))
 ne:l ≠ b
 j3:xs ≠ []
 cu:xs.length<=1000
 ok:∀ x ∈ xs,cA x
theorem b8.fix {H H':Hp} {b l:Addr} {xs:List Str} (h:b8 H b l xs) (f:Fix b H H'):b8 H' b l xs:=⟨f l _ h.at_ h.ne,h.ne,h.j3,h.cu,h.ok⟩
theorem b8.pos {H:Hp} {b l:Addr} {xs:List Str} (h:b8 H b l xs):0 < ((xs.map V.str).length:Int)/\((xs.map V.str).length:Int) < 1073741824:=by
 have h1:=h.j3
 have h2:=h.cu
 have h3:0 < xs.length:=by cases xs with | nil=>exact absurd rfl h1 | cons _ _=>simp
 rw [List.length_map]
 omega
inductive mI  (vs:List V) (H:Hp) (Q:VK) (_:XK):Prop
 | mk (b:Addr) (_:vs = [.ref b]) (_:bx H b) (_:∀ l xs H',b8 H' b l xs->xs.length<=4->bx H' b->Fix b H H'->Q (.ref l) H')
inductive ir  (vs:List V) (H:Hp) (Q:VK) (_:XK):Prop
 | mk (b:Addr) (_:vs = [.ref b]) (_:bx H b) (_:∀ n H',fo n->bx H' b->Fix b H H'->Q (.int n) H')
inductive kC  (vs:List V) (H:Hp) (Q:VK) (_:XK):Prop
 | mk (b l:Addr) (xs:List Str) (_:vs = [.ref b,.ref l]) (_:bx H b) (_:b8 H b l xs) (_:∀ v d H',aI H' v (cD d)->eZ xs d->bx H' b->Fix b H H'->Q v H')
inductive kF  (vs:List V) (H:Hp) (Q:VK) (_:XK):Prop
 | mk (b l:Addr) (xs:List Str) (c:Nat) (_:vs = [.ref b,.ref l,.int c]) (_:bx H b) (_:b8 H b l xs) (_:0 < c) (_:c < 1073741824) (_:∀ v e H',aI H' v (kB e)->j1 xs c e->bx H' b->Fix b H H'->Q v H')
inductive oP  (vs:List V) (H:Hp) (Q:VK) (_:XK):Prop
 | mk (b:Addr) (c m:Nat) (_:vs = [.ref b,.int c,.int m]) (_:bx H b) (_:0 < c) (_:c<=1000) (_:m<=1000) (_:∀ v xs ps H',aI H' v (cW ps)->ps.length=c->cE xs m ps->((∀ x ∈ xs,cA x)/\xs.length<=4)->bx H' b->Fix b H H'->Q v H')
inductive mJ  (vs:List V) (H:Hp) (Q:VK) (_:XK):Prop
 | mk (b:Addr) (m:Nat) (_:vs = [.ref b,.int m]) (_:bx H b) (_:0 < m) (_:m<=1000) (_:∀ (n:Nat) H',0 < n->n<=max m 4->bx H' b->Fix b H H'->Q (.int n) H')
def e7:Str := "abcdefghijklmnopqrstuvwxyz"
theorem kG:e7.cps.toList=(List.range 26).map (· + 97):=by decide +kernel
theorem gM:e7.length<=sizeLine:=by decide +kernel
theorem iV {r:Int} (h0:0<=r) (h1:r < 26):∃ c,dq e7.cps.toList r=some c/\97<=c/\c<=122:=by
 have hl:e7.cps.toList.length=26:=by rw [kG];simp
 obtain⟨c,hc,hm⟩:=nB (xs:=e7.cps.toList) h0 (by rw [hl];exact h1)
 refine⟨c,hc,?_⟩
 rw [kG] at hm
 obtain⟨k,hk,rfl⟩:=List.mem_map.mp hm
 have:=List.mem_range.mp hk
 omega
theorem iu {xs:List Str} {r:Int} (h0:0<=r) (h1:r < ((xs.map V.str).length:Int)):∃ x,dq (xs.map V.str) r=some (V.str x)/\x ∈ xs:=by
 obtain⟨v,hv,hm⟩:=nB h0 h1
 obtain⟨x,hx,rfl⟩:=List.mem_map.mp hm
 exact⟨x,hv,hx⟩
theorem nG {σ : L2.St} {H:Hp} {Q:Bool->Hp->Prop} (h:Q true H):tL σ H Q:=h
theorem b9 {i:Nat} {v:V} {σ : L2.St} {H:Hp} {Q:L2.St->Hp->Prop} (h:Q (σ.set i (some v)) H):gH i v σ H Q:=h
section
variable {κ : Type} [DecidableEq κ]
def gc (kvs:List (κ × V)) (k:κ):Option V:=(kvs.find? fun kv=>decide (kv.1=k)).map (·.2)
def putK (kvs:List (κ × V)) (k:κ) (v:V):List (κ × V) :=
 if (kvs.any fun kv=>decide (kv.1=k))=true then kvs.map (fun kv=>if kv.1=k then (kv.1,v) else kv) else kvs ++ [(k,v)]
theorem kH {p:κ × V} {r:List (κ × V)} {k:κ} (e:p.1=k):gc (p :: r) k=some p.2:=by simp [gc,List.find?_cons,e]
theorem kJ {p:κ × V} {r:List (κ × V)} {k:κ} (e:¬ p.1=k):gc (p :: r) k=gc r k:=by simp [gc,List.find?_cons,e]
theorem kK (k:κ):∀ kvs:List (κ × V),(kvs.any fun kv=>decide (kv.1=k))=(gc kvs k).isSome
 | []=>rfl
 | p :: r=>by
  rw [List.any_cons]
  by_cases e:p.1=k
  ·simp only [kH e,decide_eq_true e,Bool.true_or,Option.isSome_some]
  ·rw [kJ e,decide_eq_false e,Bool.false_or];exact kK k r
theorem hJ (kvs:List (κ × V)) (k:κ) (v:V):(putK kvs k v).length<=kvs.length+1:=by
 unfold putK
 split
 ·rw [List.length_map];omega
 ·rw [List.length_append,List.length_cons,List.length_nil];omega
theorem j9.oQ {o:Option V} {u:Option Value} (r:j9 o u):o.isSome=u.isSome:=by
 cases o with
 | none=>cases u with
  | none=>rfl
  | some _=>exact (show False from r).elim
 | some _=>cases u with
  | none=>exact (show False from r).elim
  | some _=>rfl
theorem KV.any {kvs:List (κ × V)} {vs:List (κ × Value)} (r:KV kvs vs) (k:κ):(kvs.any fun kv=>decide (kv.1=k))=vs.any fun kv=>decide (kv.1=k):=by
 unfold KV at r
 induction r with
 | nil=>rfl
 | cons h t ih=>rw [List.any_cons,List.any_cons,ih,h.1]
theorem KV.qg {kvs:List (κ × V)} {vs:List (κ × Value)} (r:KV kvs vs) (k:κ) {y:V} {u:Value} (ry:RelV y u) :
  KV (kvs.map fun kv=>if kv.1=k then (kv.1,y) else kv) (vs.map fun kv=>if kv.1=k then (kv.1,u) else kv):=by
 unfold KV at r ⊢
 induction r with
 | nil=>exact .nil
 | @cons p q ps qs h t ih =>
  rw [List.map_cons,List.map_cons]
  refine .cons ?_ ih
  obtain⟨h1,h2⟩:=h
  by_cases e:p.1=k
  ·rw [if_pos e,if_pos (h1.symm.trans e)];exact⟨h1,ry⟩
  ·rw [if_neg e,if_neg (fun z=>e (h1.trans z))];exact⟨h1,h2⟩
theorem KV.put {kvs:List (κ × V)} {vs:List (κ × Value)} (r:KV kvs vs) (k:κ) {y:V} {u:Value} (ry:RelV y u):KV (putK kvs k y) (stored vs k u):=by
 unfold putK stored
 rw [r.any k]
 by_cases e:(vs.any fun kv=>decide (kv.1=k))=true
 ·rw [if_pos e,if_pos e];exact r.qg k ry
 ·rw [if_neg e,if_neg e];exact Paired.snoc r ⟨rfl,ry⟩
theorem KV.keys {kvs:List (κ × V)} {vs:List (κ × Value)} (r:KV kvs vs):kvs.map (·.1)=vs.map (·.1):=by
 unfold KV at r
 induction r with
 | nil=>rfl
 | cons h t ih=>rw [List.map_cons,List.map_cons,ih,h.1]
theorem KV.length {kvs:List (κ × V)} {vs:List (κ × Value)} (r:KV kvs vs):kvs.length=vs.length:=Paired.length r
end
theorem qT {P:Program} {w:World} {k:Key} {u:Value} (r:RelV (kV k) u):(ai P w).is k u=true:=by
 cases k with
 | inl i=>obtain⟨t,e⟩:=(show ∃ t,u=Value.int i t from r);subst e;exact gW P w i t
 | inr x=>obtain⟨t,e⟩:=(show ∃ t,u=Value.str x t from r);subst e;exact gX P w x t
theorem jM {P:Program} {w:World}:∀ {ks:List Key} {us:List Value},Vals (ks.map kV) us->ItemsAre (ai P w) ks us
 | [],_,r=>by rw [List.map_nil] at r;cases r;exact .nil
 | k :: ks,_,r=>by
  rw [List.map_cons] at r
  cases r with
  | cons h t=>exact .cons (qT h) (jM t)
abbrev KT (H:Hp):List (List Key × V)->List (List Key × Addr × Value)->Prop:=Paired fun p q=>p.1=q.1/\H q.2.1=some (.tup (p.1.map kV))/\RelV p.2 q.2.2
theorem KT.val {H:Hp} {kvs:List (List Key × V)} {xs:List (List Key × Addr × Value)} (r:KT H kvs xs) (k:List Key):j9 (gc kvs k) ((atKey xs k).map (·.2)):=by
 induction r with
 | nil=>exact True.intro
 | @cons p q ps qs h t ih =>
  obtain⟨h1,_,h2⟩:=h
  by_cases e:p.1=k
  ·have e':q.1=k:=h1.symm.trans e
   have b:atKey (q :: qs) k=some q.2:=by simp [atKey,List.find?_cons,e']
   rw [kH e,b];exact h2
  ·have e':¬ q.1=k:=fun z=>e (h1.trans z)
   have b:atKey (q :: qs) k=atKey qs k:=by simp [atKey,List.find?_cons,e']
   rw [kJ e,b];exact ih
theorem KT.qg {H:Hp} {kvs:List (List Key × V)} {xs:List (List Key × Addr × Value)} (r:KT H kvs xs) (k:List Key) {y:V} {u:Value} (ry:RelV y u) :
  KT H (kvs.map fun kv=>if kv.1=k then (kv.1,y) else kv) (xs.map (putAt k u)):=by
 induction r with
 | nil=>exact .nil
 | @cons p q ps qs h t ih =>
  rw [List.map_cons,List.map_cons]
  refine .cons ?_ ih
  obtain⟨h1,h2,h3⟩:=h
  unfold putAt
  by_cases e:p.1=k
  ·rw [if_pos e,if_pos (h1.symm.trans e)];exact⟨h1,h2,ry⟩
  ·rw [if_neg e,if_neg (fun z=>e (h1.trans z))];exact⟨h1,h2,h3⟩
theorem KT.put {H:Hp} {kvs:List (List Key × V)} {xs:List (List Key × Addr × Value)} (r:KT H kvs xs) (k:List Key) {b:Addr} {y:V} {u:Value} (hb:H b=some (.tup (k.map kV))) (ry:RelV y u) :
  KT H (putK kvs k y) (storedH xs k b u):=by
 have e:(kvs.any fun kv=>decide (kv.1=k))=(atKey xs k).isSome:=by
  rw [kK,(r.val k).oQ,Option.isSome_map]
 unfold putK storedH
 rw [e]
 by_cases q:(atKey xs k).isSome=true
 ·rw [if_pos q,if_pos q];exact r.qg k ry
 ·rw [if_neg q,if_neg q];exact Paired.snoc r ⟨rfl,hb,ry⟩
theorem KT.keeps {H H':Hp} {kvs:List (List Key × V)} {xs:List (List Key × Addr × Value)} (r:KT H kvs xs) (ht:∀ b ys,H b=some (.tup ys)->H' b=some (.tup ys)):KT H' kvs xs :=
 Paired.pK r fun _ _ z=>⟨z.1,ht _ _ z.2.1,z.2.2⟩
section
variable {P:Program} {w:World} {H:Hp} {h:Heap} {a:Addr}
theorem qU {u:HO} (ok:bN P w H h) (e:Rd H a u):aU P w H h a u:=e.ok ok
theorem uy {kvs:List (Key × V)} (ok:bN P w H h) (e:Rd H a (.dK kvs)):kvs.length<=sizeLine/\(a == sysModules)=false/\∃ vs,KV kvs vs/\h.DictOf (ai P w) a vs :=
 show aU P w H h a (.dK kvs) from qU ok e
theorem nH {kvs:List (Key × V)} (ok:bN P w H h) (e:H a=some (.dK kvs)):kvs.length<=sizeLine/\(a == sysModules)=false/\∃ vs,KV kvs vs/\h.DictOf (ai P w) a vs:=uy ok (.inl e)
theorem oR {ks:List Key} (ok:bN P w H h) (e:H a=some (.tup (ks.map kV))):(tupleKind (ai P w)).is h ks a:=by
 obtain⟨_,its,r,o,h1,h2,n,h3⟩:=(show aU P w H h a (.tup (ks.map kV)) from ok a _ e)
 exact⟨o,its.toArray,n,h1,h2,h3.1,by simpa using jM r⟩
theorem uz {kvs:List (List Key × V)} (ok:bN P w H h) (e:Rd H a (.dT kvs)):kvs.length<=sizeLine/\(a == sysModules)=false /\
  ∃ xs,KT H kvs xs/\h.DictOfH (tupleKind (ai P w)) a xs:=by
 obtain⟨z,y,xs,r,o,es,ep,h1,h2,h3,h4,h5⟩:=(show aU P w H h a (.dT kvs) from qU ok e)
 refine⟨z,y,xs,r,o,es,ep,h1,h2,h3,h4,fun x hx=>?_,h5⟩
 have all:∀ {l:List (List Key × V)} {m:List (List Key × Addr × Value)},KT H l m->∀ x ∈ m,(tupleKind (ai P w)).is h x.1 x.2.1:=by
  intro l m q
  induction q with
  | nil=>intro x hx;exact nomatch hx
  | @cons p q ps qs hq t ih =>
   intro x hx
   rcases List.mem_cons.mp hx with e | hx
   ·subst e
    exact oR ok (by rw [<-hq.1];exact hq.2.1)
   ·exact ih x hx
 exact all r x hx
theorem uA {kvs:List (List Key × V)} (ok:bN P w H h) (e:H a=some (.dT kvs)):kvs.length<=sizeLine/\(a == sysModules)=false /\
  ∃ xs,KT H kvs xs/\h.DictOfH (tupleKind (ai P w)) a xs:=uz ok (.inl e)
end
def gd (H:Hp) (a:Addr) (y v:V) (H':Hp):Prop :=
 (∃ kvs k,H a=some (.dK kvs)/\y=kV k/\kvs.length < sizeLine/\H' = upd H a (.dK (putK kvs k v))) \/
 ∃ kvs k b,H a=some (.dT kvs)/\y=.ref b/\H b=some (.tup (k.map kV))/\kvs.length < sizeLine/\H' = upd H a (.dT (putK kvs k v))
theorem gd.k {H:Hp} {a:Addr} {kvs:List (Key × V)} {k:Key} {v:V} (e:H a=some (.dK kvs)) (hl:kvs.length < sizeLine):gd H a (kV k) v (upd H a (.dK (putK kvs k v))):=.inl ⟨kvs,k,e,rfl,hl,rfl⟩
section
variable {X:Cx} {pins:List (Addr × Obj)} {σ : St} {H:Hp} {s:Shared} {a:Addr} {y v:V} {u r:Value} {o:Option V} {A:Around} {E:Value->Shared->Prop}
theorem Inv.big (I:Inv X pins σ H s):sysModules < s.heap.objs.size:=by
 have h:mainGlobals < s.heap.objs.size:=(I.mod.glob.keeps I.bk).lt
 exact Nat.lt_trans (by decide) h
theorem mK {h':Heap} {t':Nat} {ob:HO} (I:Inv X pins σ H s) (mu:oh (H a)) (hs:Heap.SameBut a s.heap h') (he:∃ q,h'.get? a=some q) (new:aU X.prog X.w (upd H a ob) h' a ob) :
  Inv X pins σ (upd H a ob) { s with heap:=h',toks:=t' } :=
 I.write (x:=a) (e:=a) mu (.inl rfl) (fun b q hb z=>(hs.2 b hb).trans z) he new
theorem tN {P:Program} {w:World} {H':Hp} {h':Heap} {kvs:List (Key × V)} {vs:List (Key × Value)} (z:kvs.length<=sizeLine) (hd:(a == sysModules)=false) (rel:KV kvs vs) (dd:h'.DictOf (ai P w) a vs) :
  aU P w H' h' a (.dK kvs):=⟨z,hd,vs,rel,dd⟩
theorem oU {H':Hp} {Q:Unit->Shared->Prop} (hu:A.units+1 < cLine) (I:Inv X pins σ H s) (g:gd H a y v H') (ry:RelV y u) (rv:RelV v r) (h:∀ s',Inv X pins σ H' s'->Q () s') :
  wpAny (model X.prog X.w) A (setItem (.ref a) u r) Q E s:=by
 rcases g with ⟨kvs,k,e,ey,l,eH⟩ | ⟨kvs,k,b,e,ey,eb,l,eH⟩
 ·subst ey eH
  obtain⟨z,hd,vs,rel,dd⟩:=nH I.av e
  have hz:vs.length<=sizeLine:=by rw [<-rel.length];exact z
  have hl:(putK kvs k v).length<=sizeLine:=by have:=hJ kvs k v;omega
  refine wpAny_setItem_pairs (hsz:=hz) (qT ry) dd fun h' dd' hs=>h _ ?_
  have he:∃ q,h'.get? a=some q:=let ⟨q,_,_,hq,_⟩:=dd';⟨q,hq⟩
  exact mK I (by rw [e];exact True.intro) hs he (tN hl hd (rel.put k rv) dd')
 ·subst ey eH
  cases (show u=Value.ref b from ry)
  obtain⟨z,hd,xs,rel,dd⟩:=uA I.av e
  have hz:xs.length<=sizeLine:=by rw [<-Paired.length rel];exact z
  have hl:(putK kvs k v).length<=sizeLine:=by have:=hJ kvs k v;omega
  refine wpAny_setItem_heap (hsz:=hz) (tupleKind_room_in1 hu) (oR I.av eb) dd fun h' dd' hs=>h _ ?_
  obtain⟨q,es,ep,hq,h2,h3,h4,_,h5⟩:=dd'
  refine mK I (by rw [e];exact True.intro) hs ⟨q,hq⟩ ⟨hl,hd,_,(rel.put k eb rv).keeps fun c ys ec=>?_,q,es,ep,hq,h2,h3,h4,h5⟩
  rw [ae (bU ec e (fun z=>nomatch z))]
  exact ec
end
section
variable {X:Cx} {pins:List (Addr × Obj)} {σ : St} {H:Hp} {s:Shared} {a:Addr} {kvs:List (Key × V)} {k:Key} {u:Value} {A:Around} {E:Value->Shared->Prop}
end
def tO (i:Expr):Prop:=∀ ov iv,subscripted i false ov iv=operate [ov,iv] (getItem ov iv)
theorem rJ {prog:Program} {w:World} {A:Around} {E:Value->Shared->Prop} {s:Shared} {env:Env} {value slice:Expr} {pos:Pos} {T id:String} {Q:Value->Shared->Prop}
  (hl:typeLookup (.type T) "__getitem__" = pure (some (.builtin id))) (hs:tO slice)
  (h:wpAny (model prog w) A (eval value env) (fun o s₁=>wpAny (model prog w) A (eval slice env) (fun i s₂=>s₂.TypeIs o T/\wpAny (model prog w) A (getItem o i) Q E s₂) E s₁) E s) :
  wpAny (model prog w) A (eval (.Subscript value slice pos) env) Q E s:=by
 refine Subscript_ (wpAny_mono h (fun o s₁ h₁=>wpAny_mono h₁ (fun i s₂ h₂=>?_) fun _ _ x=>x) fun _ _ x=>x)
 obtain⟨hT,h₂⟩:=h₂
 unfold subscriptTail
 refine wpAny_bind ?_
 rw [getitemInPython_of_ne hT.not_modules]
 refine wpAny_bind (wpAny_specialOf hT hl ?_)
 have fin:wpAny (model prog w) A (subscripted slice false o i) (fun r s₃=>wpAny (model prog w) A (letTemporaryGo value o r >>= fun _=>pure r) Q E s₃) E s₂:=by
  rw [hs o i]
  exact wpAny_operating (wpAny_mono h₂ (fun r s₃ h₃=>wpAny_bind (wpAny_letTemporaryGo (wpAny_pure h₃))) fun _ _ x=>x)
 first
  | exact wpAny_pure (wpAny_bind fin)
  | exact wpAny_bind (wpAny_pure (wpAny_bind fin))
  | exact wpAny_bind fin
def uB (td ty tv:TE):TS:=fun D σ H=>tv σ H fun v H1=>td σ H1 fun x H2=>ty σ H2 fun y H3=>∃ a H4,x=.ref a/\gd H3 a y v H4/\D.nx σ H4
section
variable {X:Cx} {o i e value:Expr} {pos pos' tpos:Pos} {td ty tv:TE}
theorem gN (hu:X.A.units+1 < cLine) (ho:PE X o td) (hi:PE X i ty) (hv:PE X value tv) (hs:swapsWith value (some (.Subscript o i pos')) pos.line X.env=pure false) :
  PS X (.Assign [.Subscript o i pos'] value pos) (uB td ty tv):=by
 intro pins s σ H D I h
 refine wpAny_Assign_Subscript (aK (hv pins s σ H _ I h) fun r s1 ⟨v,H1,I1,rv,q1⟩=>aK (ho pins s1 σ H1 _ I1 q1) fun u s2 ⟨x,H2,I2,rx,q2⟩=>aK (hi pins s2 σ H2 _ I2 q2) fun iv s3 ⟨y,H3,I3,ry,a,H4,ex,g,q3⟩=>?_) hs
 subst ex
 obtain rfl:u=Value.ref a:=rx
 exact oU hu I3 g ry rv fun s4 I4=>⟨σ,H4,I4,q3⟩
end
theorem qh {P:Program} {w:World} {H:Hp} (h:Heap) (hb:sysModules < h.objs.size):aU P w H (h.push { cls:=.type "dict",data:=.dict #[] }) h.objs.size (.dK []) :=
 ⟨Nat.zero_le _,beq_eq_false_iff_ne.mpr (Ne.symm (Nat.ne_of_lt hb)),[],.nil,Heap.DictOf.new h⟩
def tP:TE:=fun _ H Q=>∀ p,H p=none->Q (.ref p) (upd H p (.dK []))
section
variable {X:Cx} {pos:Pos}
theorem kL:PE X (.Dict [] [] pos) tP:=fun pins s σ H Q I h =>
 wpAny_Dict_empty ⟨.ref s.heap.objs.size,_,I.laid (a:=s.heap.objs.size) (o:=.dK []) (t':=s.toks) (fun _ _ q=>Heap.get?_push_of_some _ q) (Nat.le_refl _) (qh s.heap I.big),rfl,h _ (I.av.fresh (Nat.le_refl _))⟩
end
section
variable {X:Cx} {pins:List (Addr × Obj)} {σ : St} {H:Hp} {s:Shared} {a:Addr} {y d:V} {u r:Value} {o:Option V} {A:Around} {E:Value->Shared->Prop}
end
section
variable {X:Cx} {o e f:Expr} {apos cpos:Pos} {td ty tx:TE}
end
section
variable {X:Cx} {pins:List (Addr × Obj)} {σ : St} {H:Hp} {s:Shared} {a:Addr} {kvs:List (Key × V)} {A:Around} {E:Value->Shared->Prop}
end
section
variable {X:Cx} {pins:List (Addr × Obj)} {σ : St} {H:Hp} {s:Shared} {a:Addr} {y:V} {u:Value} {A:Around} {E:Value->Shared->Prop}
end
section
variable {X:Cx}
end
section
variable {κ : Type} [DecidableEq κ]
end
theorem aI.bJ {H:Hp} {v:V} {ds:List PyData} (h:aI H v (.tuple ds)):∃ p xs,v=.ref p/\H p=some (.tup xs)/\aH H xs ds:=by
 cases h with
 | tup e r=>exact⟨_,_,rfl,e,r⟩
theorem aI.int_inv {H:Hp} {v:V} {i:Int} (h:aI H v (.int i)):v=.int i:=by cases h;rfl
theorem aI.str_inv {H:Hp} {v:V} {x:Str} (h:aI H v (.str x)):v=.str x:=by cases h;rfl
theorem aH.cons_inv {H:Hp} {xs:List V} {d:PyData} {ds:List PyData} (h:aH H xs (d :: ds)):∃ x r,xs=x :: r/\aI H x d/\aH H r ds:=by
 cases h with
 | cons a b=>exact⟨_,_,rfl,a,b⟩
theorem aH.nil_inv {H:Hp} {xs:List V} (h:aH H xs []):xs = []:=by cases h;rfl
theorem aH.get {H:Hp}:∀ {xs:List V} {ds:List PyData} {i:Nat} {d:PyData},aH H xs ds->ds[i]? = some d->∃ x,xs[i]? = some x/\aI H x d
 | _,_,_,_,.nil,e=>by simp at e
 | _,_,0,_,.cons r _,e=>by
  simp at e
  subst e
  exact⟨_,rfl,r⟩
 | _,_,i+1,d,.cons _ t,e=>by
  obtain⟨x,h1,h2⟩:=aH.get (i:=i) (d:=d) t (by simpa using e)
  exact⟨x,by simpa using h1,h2⟩
def iW:b7->List V
 | .put x n=>[.str "put",.str x,.int n]
 | .copy x y=>[.str "copy",.str x,.str y]
 | .add x n=>[.str "add",.str x,.int n]
 | .read x=>[.str "read",.str x]
 | .tell x=>[.str "tell",.str x]
def jj:End->List V
 | .stop=>[.str "stop"]
 | .go p=>[.str "go",.int p]
 | .dr b x n p q=>[.str (wT b),.str x,.int n,.int p,.int q]
theorem mL {H:Hp} {v:V} {d:b7} (h:aI H v (cD d)):∃ p,v=.ref p/\H p=some (.tup (iW d)):=by
  cases d <;> (
    obtain⟨p,xs,rfl,e,r⟩:=aI.bJ h
    obtain⟨x1,r1,rfl,h1,r⟩:=r.cons_inv
    obtain⟨x2,r2,rfl,h2,r⟩:=r.cons_inv
    first
      | (obtain⟨x3,r3,rfl,h3,r⟩:=r.cons_inv
         have z:=r.nil_inv
         subst z
         refine⟨p,rfl,?_⟩
         first
           | rw [e,h1.str_inv,h2.str_inv,h3.int_inv];rfl
           | rw [e,h1.str_inv,h2.str_inv,h3.str_inv];rfl)
      | (have z:=r.nil_inv
         subst z
         refine⟨p,rfl,?_⟩
         rw [e,h1.str_inv,h2.str_inv];rfl))
theorem tQ {H:Hp} {v:V} {e:End} (h:aI H v (kB e)):∃ p,v=.ref p/\H p=some (.tup (jj e)):=by
 cases e with
 | stop =>
  obtain⟨p,xs,rfl,e,r⟩:=aI.bJ h
  obtain⟨x1,r1,rfl,h1,r⟩:=r.cons_inv
  have z:=r.nil_inv
  subst z
  exact⟨p,rfl,by rw [e,h1.str_inv];rfl⟩
 | go q =>
  obtain⟨p,xs,rfl,e,r⟩:=aI.bJ h
  obtain⟨x1,r1,rfl,h1,r⟩:=r.cons_inv
  obtain⟨x2,r2,rfl,h2,r⟩:=r.cons_inv
  have z:=r.nil_inv
  subst z
  exact⟨p,rfl,by rw [e,h1.str_inv,h2.int_inv];rfl⟩
 | dr b x n q q' =>
  obtain⟨p,xs,rfl,e,r⟩:=aI.bJ h
  obtain⟨x1,r1,rfl,h1,r⟩:=r.cons_inv
  obtain⟨x2,r2,rfl,h2,r⟩:=r.cons_inv
  obtain⟨x3,r3,rfl,h3,r⟩:=r.cons_inv
  obtain⟨x4,r4,rfl,h4,r⟩:=r.cons_inv
  obtain⟨x5,r5,rfl,h5,r⟩:=r.cons_inv
  have z:=r.nil_inv
  subst z
  exact⟨p,rfl,by rw [e,h1.str_inv,h2.str_inv,h3.int_inv,h4.int_inv,h5.int_inv];rfl⟩
theorem cK {H:Hp} {v:V} {ps:List Piece} {i:Nat} {ds:List b7} {e:End} (h:aI H v (cW ps)) (hi:ps[i]? = some (ds,e)) :
  ∃ p xs pc da ea vs,v=.ref p/\H p=some (.tup xs)/\xs.length=ps.length/\xs[i]? = some (.ref pc)/\H pc=some (.tup [.ref da,.ref ea])/\H da=some (.tup vs)/\aH H vs (ds.map cD)/\H ea=some (.tup (jj e)):=by
 obtain⟨p,xs,rfl,e1,r⟩:=aI.bJ h
 have hl:=r.len
 obtain⟨x,hx,rx⟩:=r.get (i:=i) (d:=cz (ds,e)) (by rw [List.getElem?_map,hi];rfl)
 obtain⟨pc,ys,rfl,e2,r2⟩:=aI.bJ rx
 obtain⟨y1,t1,rfl,q1,r2⟩:=r2.cons_inv
 obtain⟨y2,t2,rfl,q2,r2⟩:=r2.cons_inv
 have z:=r2.nil_inv
 subst z
 obtain⟨da,vs,rfl,e3,r3⟩:=aI.bJ q1
 obtain⟨ea,rfl,e4⟩:=tQ q2
 exact⟨p,xs,pc,da,ea,vs,rfl,e1,by rw [hl,List.length_map],hx,e2,e3,r3,e4⟩
theorem nI {n:Nat} (h:n<=1000000):n < sizeLine:=Nat.lt_of_le_of_lt h (by decide)
theorem cw {c:Bool} {A B:Prop} (hc:c=false) (h:B):if c=true then A else B:=by subst hc;exact eN h
theorem eG {c:Bool} {A B:Prop} (hc:c=true) (h:A):if c=true then A else B:=by subst hc;exact fj h
structure RS where
 uC:Nat
 place:Nat
 w:Str->Int
 taken:Nat
 told:List Int
 word:Str
 qi:List Nat
def DW (kvs:List (Key × V)) (w:Str->Int):Prop:=∀ x:Str,(gc kvs (Sum.inr x:Key)).getD (.int 0)=.int (w x)
def fb (ps:List Piece):Prop:=∀ p ∈ ps,match p.2 with
 | .stop=>True
 | .go q=>q < ps.length
 | .dr _ _ _ q r=>q < ps.length/\r < ps.length
theorem cE.tR {xs:List Str} {m:Nat} {ps:List Piece} (h:cE xs m ps):fb ps:=fun p hp=>by
 have:=h.ends p hp
 cases e:p.2 with
 | stop=>exact True.intro
 | go q=>rw [e] at this;exact this
 | dr b x n q r=>rw [e] at this;exact⟨this.2.2.1,this.2.2.2⟩
theorem ah.put {H H':Hp} {l:Addr} {o:HO} (s:ah H H') (n:H l=none):ah H (upd H' l o):=fun c u e=>by rw [ae (aF e n)];exact s c u e
section
variable {X:Cx} {C:Addr} {m x:Str} {k:Nat} {ps:List Str} {sp:Sp} {oe e:Expr} {es:List Expr} {ta:TE} {t:TA} {p pos apos:Pos}
end
def vx (a0 a1 a2 a3 a4 a5 a6 a7:V):List (Str × V):=[("pieces",a0),("passed",a1),("place",a2),("worths",a3),("numbers",a4),("taken",a5),("spoken",a6),("over",a7)]
section
variable {a0 a1 a2 a3 a4 a5 a6 a7 z:V}
end
structure bB (C:Addr) (H:Hp) (p pl d nl sl:Addr) (plv:V) (nums:List Int) (S:RS) (m:Nat):Prop where
 ob:∃ dx,H p=some (.ins C dx (vx plv (.ref pl) (.int S.place) (.ref d) (.ref nl) (.int S.taken) (.ref sl) (.bl (decide (S.word = "stop")))))
 vy:H pl=some (.lst (S.qi.map fun k=>V.int (k:Nat)))
 last:∃ xs,S.qi=xs ++ [S.uC]
 dict:∃ kvs,H d=some (.dK kvs)/\DW kvs S.w/\kvs.length<=m
 nums:H nl=some (.lst (nums.map V.int))
 vz:H sl=some (.lst (S.told.map V.int))
 ne:pl ≠ nl/\pl ≠ sl/\nl ≠ sl
 cu:S.told.length<=m/\S.qi.length<=m+1
section
variable {C:Addr} {H H':Hp} {p pl d nl sl:Addr} {plv:V} {nums:List Int} {S:RS} {m:Nat}
end
end L2
namespace HT
open PySem PyProof.Rows PySem.Spec
section
variable {prog:Program} {w:World} {A:Around} {E:Value->Shared->Prop} {s:Shared}
theorem gU {t sl:Addr} {items:Array Value} {vl vu:Value} {lo hi:Option Int} {Q:Value->Shared->Prop} (ht:IsTup s.heap t items) (hs:s.heap.IsSliceOf sl vl vu .none) (pl:IsPart vl lo) (pu:IsPart vu hi)
  (hw:aO items.size 0 lo=0/\aO items.size items.size hi=items.size) (h:Q (.ref t) s):wpAny (model prog w) A (getItem (.ref t) (.ref sl)) Q E s:=by
 obtain⟨os,hos,hcs,hds⟩:=id hs
 have hTs:s.TypeIs (.ref sl) "slice" := ⟨os,hos,hcs⟩
 unfold getItem
 try with_reducible refine wpAny_holding ?_
 first | refine wpAny_bind (wpAny_pure ?_) | skip
 refine wpAny_bind (wpAny_sequenceKey ht.typeIs (by decide) ?_)
 refine wpAny_bind (wpAny_callSpecial?_slot (name:=Str.ofString "__getitem__") ht.typeIs PyProof.Rows.slot_tuple_getitem
  (wpAny_call_entry PyProof.Rows.slot_tuple_getitem ht.typeIs entry_tuple_getitem ?_ (args_tuple_getitem _ _)))
 show wpAny _ _ (Builtin.Tuple.tupleItemsOf (.ref t) >>= _) _ _ s
 refine wpAny_bind (tupleItemsOf_ ht ?_)
 refine wpAny_bind (wpAny_typeOf hTs ?_)
 rw [if_pos (by decide)]
 refine wpAny_bind (ei hs pl pu ?_)
 have hno:((((aO items.size 0 lo:Nat):Int) == 0 && (1:Int) == 1 && (aO items.size items.size hi - aO items.size 0 lo) == items.size)=true):=by
  rw [hw.1,hw.2]
  simp
 show wpAny _ _ (if (((aO items.size 0 lo:Nat):Int) == 0 && (1:Int) == 1 && (aO items.size items.size hi - aO items.size 0 lo) == items.size)=true then _ else _) _ _ s
 rw [if_pos hno]
 refine wpAny_bind ?_
 unfold Builtin.Tuple.tupleIsExact
 refine wpAny_bind (wpAny_typeOf ht.typeIs (wpAny_pure ?_))
 rw [if_pos (by decide)]
 refine wpAny_bind (wpAny_rule ?_)
 first
  | exact wpAny_pure ⟨_,rfl,wpAny_pure h⟩
  | exact wpAny_bind (wpAny_pure (wpAny_pure ⟨_,rfl,wpAny_pure h⟩))
  | exact wpAny_pure (wpAny_pure ⟨_,rfl,wpAny_pure h⟩)
end
end HT
namespace L2
open PySem PySem.Spec PyProof.Rows
section
variable {X:Cx}
inductive uD (K:PySem.W.Frag) (x:V) (lo:Option Int) (hi:Option Int) (H:Hp) (Q:VK):Prop
 | mk (a xs:_) (_:x=.ref a) (_:ay K H a xs) (_:((HT.aO xs.length 0 lo=0/\HT.aO xs.length xs.length hi=xs.length)->Q (.ref a) H)) (_:(¬ (HT.aO xs.length 0 lo=0/\HT.aO xs.length xs.length hi=xs.length)->∀ p,H p=none->Q (.ref p) (upd H p (.tup (ip xs lo hi)))))
theorem mM:tf X (uD X.K):=by
 intro pins s σ H x v vl vu lo hi sl Q I rx hs pl pu h
 obtain⟨a,xs,rfl,hx,q1,q2⟩:=h
 by_cases hw:HT.aO xs.length 0 lo=0/\HT.aO xs.length xs.length hi=xs.length
 ·cases rx
  obtain⟨its,r,ht,hz⟩:=I.tuple hx
  have hlen:its.toArray.size=xs.length:=by rw [List.size_toArray];exact r.length.symm
  refine⟨"tuple",_,PyProof.Rows.slot_tuple_getitem.lookup,ht.typeIs,?_⟩
  exact HT.gU ht hs pl pu (by rw [hlen];exact hw) ⟨.ref a,H,I,rfl,q1 hw⟩
 ·exact tj pins s σ H (.ref a) v vl vu lo hi sl Q I rx hs pl pu ⟨a,xs,rfl,hx,hw,q2 hw⟩
end
theorem hV {P:Program} {w:World} {x:Str} {v:Value} (h:(ai P w).is (Sum.inr x) v=true):∃ t,v=.str x t:=by
 cases v with
 | str y t =>
  have:y=x:=by simpa [ai,dA,Value.isStrOf] using h
  exact⟨t,by rw [this]⟩
 | _=>simp [ai,dA,Value.isStrOf] at h
theorem iZ:∀ {vs:List Value} {ks:List Str},vs.length=ks.length->(∀ (j:Nat) (v:Value) (x:Str),vs[j]? = some v->ks[j]? = some x->∃ t,v=.str x t)->StrsAre vs ks
 | [],[],_,_=>.nil
 | v :: vs,x :: ks,hl,h=>by
  obtain⟨t,rfl⟩:=h 0 v x rfl rfl
  exact .cons x t (iZ (by simpa using hl) fun j v' x' h1 h2=>h (j+1) v' x' (by simpa using h1) (by simpa using h2))
 | [],_ :: _,hl,_=>by simp at hl
 | _ :: _,[],hl,_=>by simp at hl
section
variable {prog:Program} {w:World} {A:Around} {E:Value->Shared->Prop} {s:Shared}
open PySem.Calls PySem.W in
theorem gather {T:String} {r d:Addr} {n:Nat} {P:Nat->Value->Prop} {OK:Heap->Prop} {G:List Value->Shared->Prop} (src:KdlSrc prog w T r d n P OK) (calm:A.handled=none) (ok:OK s.heap) (cu:n<=sizeLine)
  (fin:∀ (g:Heap) (tk:Nat) (got:Array Value),(∀ b o,s.heap.get? b=some o->g.get? b=some o)->ItemsOf P got n->s.heap.objs.size<=g.objs.size->G got.toList { s with heap:=g,toks:=tk }) :
  wpAny (model prog w) A (collect (.ref r)) G E s:=by
 obtain⟨lt1,lt2⟩:=src.there _ ok
 unfold collect
 refine wpAny_bind (wpAny_runValue (codeAny_builtin entry_proto_collect' ?_))
 rw [Around.under_plainId PySem.F.plain_proto_collect _]
 show wpAny _ A.in1 (newList [] >>= fun z=>again (.builtin "list.__iadd__" ⟨[z,.ref r],[]⟩)) _ _ s
 refine wpAny_bind (wpAny_newObj_type (wpAny_pure ⟨plainId_quiet PySem.F.plain_list_iadd _,codeAny_builtin entry_list_iadd' ?_⟩))
 rw [Around.under_plainId PySem.F.plain_list_iadd _]
 show wpAny _ A.in1 (Builtin.List.listExtendWith (.ref s.heap.objs.size) (.ref r) (.ref s.heap.objs.size)) _ _ _
 have made:(s.heap.push { cls:=.type "list",data:=.seq ([]:List Value).toArray }).get? s.heap.objs.size=some { cls:=.type "list",data:=.seq #[] }:=Heap.get?_push_size _ rfl
 have run:=kdl_extend (A:=A) (s:={ s with heap:=s.heap.push { cls:=.type "list",data:=.seq ([]:List Value).toArray } })
  (R:=fun (z:Result) (t:Shared)=>∃ (g:Heap) (tk:Nat) (got:Array Value) (c:Nat),z=.ok (.ret (.ref s.heap.objs.size))/\t = { s with heap:=g,toks:=tk } /\
   (∀ b o,s.heap.get? b=some o->g.get? b=some o)/\g.get? s.heap.objs.size=some { cls:=.type "list",dict:=none,data:=.seq got c,slots:=#[] }/\ItemsOf P got n)
  src calm (src.keep _ _ ok fun b _ o e=>Heap.get?_push_of_some _ e) s.heap.objs.size (Nat.ne_of_gt lt1) (Nat.ne_of_gt lt2) (.ref s.heap.objs.size) 0 made
  (fun g tk got c kept at_ its=>⟨g,tk,got,c,rfl,rfl,fun b o e=>kept b o (Nat.ne_of_lt (Heap.lt_size e)) (Heap.get?_push_of_some _ e),at_,its⟩) cu
 refine wpAny_mono run (fun z t x=>?_) fun z t ⟨_,_,_,_,bad,_⟩=>by cases bad
 cases z with
 | done f =>
  obtain⟨g,tk,got,c,e,rfl,kept,at_,its⟩:=x
  cases e
  show wpAny _ A (load s.heap.objs.size >>= _) _ _ _
  exact wpAny_bind (wpAny_load at_ (wpAny_pure (fin g tk got kept its (Nat.le_of_lt (Heap.lt_size at_)))))
 | again more =>
  refine⟨x.1,codeAny_mono x.2 fun z' t' ⟨g,tk,got,c,e1,e2,kept,at_,its⟩=>?_⟩
  subst e1 e2
  show wpAny _ A (load s.heap.objs.size >>= _) _ _ _
  exact wpAny_bind (wpAny_load at_ (wpAny_pure (fin g tk got kept its (Nat.le_of_lt (Heap.lt_size at_)))))
theorem kM {a:Addr} {kvs:List (Key × Value)} {ks:List Str} {Q:Value->Shared->Prop} (hh:A.handled=none) (lo:(a == sysModules)=false) (dd:s.heap.DictOf (ai prog w) a kvs)
  (hk:kvs.map (·.1)=ks.map Sum.inr) (h64:ks.length < 64)
  (h:∀ (h':Heap) (tk:Nat) (D:Addr) (out:Array Value) (ss':List Str) (e:Nat),(∀ b o,s.heap.get? b=some o->h'.get? b=some o)->s.heap.objs.size<=D->h'.get? D=some { cls:=.type "list",data:=.seq out e } ->
   StrsAre out.toList ss'->ss'.Perm ks->sortedS ss' = true->Q (.ref D) { s with heap:=h',toks:=tk }) :
  wpAny (model prog w) A (call (.builtin "sorted") [.ref a]) Q E s:=by
 refine Calls.call_function_entry kind_sorted plain_sorted entry_sorted (args_sorted1 _) ?_
 unfold Builtin.«sorted»
 refine wpAny_bind (m:=checkCount "sorted" 1 1 _) (wpAny_pure ?_)
 obtain⟨ep,hat⟩:=dd.dictAt
 have hlk:kvs.length=ks.length:=by have:=congrArg List.length hk;simpa using this
 have hs:sizeLine=16777216\/64<=sizeLine:=.inr (by decide)
 have hz:kvs.length<=sizeLine:=by rw [hlk];exact Nat.le_trans (Nat.le_of_lt h64) (by decide)
 refine wpAny_bind (gather (A:=A.in1) (PySem.W.kdl_dict (knd:=ai prog w) (kvs:=kvs) (ep:=ep) lo) hh hat hz fun h' tk acc hkeep hacc hsz=>?_)
 have hl:acc.toList.length=ks.length:=by rw [Array.length_toList,hacc.1,hlk]
 have hS:StrsAre acc.toList ks:=iZ hl fun j v x h1 h2=>by
  obtain⟨k,y,e1,e2⟩:=hacc.2 j v (by rw [<-Array.getElem?_toList];exact h1)
  have e3:(kvs.map (·.1))[j]? = some k:=by rw [List.getElem?_map,e1];rfl
  rw [hk,List.getElem?_map,h2] at e3
  cases (Option.some.inj e3)
  exact hV e2
 refine wpAny_bind (wpAny_newList ?_ (by rw [hl];exact Nat.le_trans (Nat.le_of_lt h64) (by decide)))
 have hoL:(h'.push (seqObj "list" acc.toList.toArray 0)).get? h'.objs.size=some (seqObj "list" acc.toList.toArray 0):=Heap.get?_push_size _ rfl
 refine wpAny_bind (wpAny_holding (wpAny_call_entry slot_list_sort ⟨_,hoL,rfl⟩ entry_list_sort (list_sort_treeK strKind_oneLt hoL hS.keysOf (fun v₁ v₂ rest e=>keyKind_strs (by rw [<-e];exact hS)) (by rw [hl];exact h64) fun st' a1 a2=>⟨_,rfl,?_⟩) (args_list_sort _)))
 obtain⟨ss',b1,b2,b3⟩:=sorted_out_str hS a1 a2
 obtain⟨e,he⟩:=sortedHeap_at (out:=(arrOf st').map (·.2)) hoL
 refine wpAny_pure ⟨_,rfl,h _ tk _ _ ss' e (fun b o ho=>?_) hsz he b1 b2 b3⟩
 have h1:=hkeep b o ho
 have hlt:=Heap.lt_size h1
 rw [sortedHeap_old (Nat.ne_of_lt hlt) (by rw [size_push'];exact Nat.lt_succ_of_lt hlt)]
 exact Heap.get?_push_of_some _ h1
end
theorem jl:∀ {us:List Value} {ys:List Str},StrsAre us ys->Vals (ys.map V.str) us
 | _,_,.nil=>.nil
 | _,_,.cons x t r=>.cons ⟨t,rfl⟩ (jl r)
section
variable {X:Cx}
theorem kN (hc:X.calm=true):cf X (.builtin "sorted") (fun vs H Q=>∃ (a:Addr) (kvs:List (Key × V)) (ks:List Str),vs = [.ref a]/\H a=some (.dK kvs)/\kvs.map (·.1)=ks.map Sum.inr/\ks.length < 64 /\
  ∀ (l:Addr) (ss:List Str),ss.Perm ks->sortedS ss=true->H l=none->Q (.ref l) (upd H l (.lst (ss.map V.str)))):=by
 intro pins s σ H xs us Q I r h
 obtain⟨a,kvs,ks,rfl,ha,hk,h64,q⟩:=h
 obtain⟨u,rfl,ru⟩:=vals1 r
 cases (show u=Value.ref a from ru)
 obtain⟨z,hd,vs,rel,dd⟩:=nH I.av ha
 refine kM (I.ok.hd hc) hd dd (by rw [<-rel.keys];exact hk) h64 fun h' tk D out ss' e hkeep hD he hS hp hs=>?_
 have hv:Vals (ss'.map V.str) out.toList:=jl hS
 refine⟨.ref D,_,I.laid (t':=tk) (o:=.lst (ss'.map V.str)) hkeep hD (show aU X.prog X.w _ h' _ (.lst (ss'.map V.str)) from ⟨?_,out.toList,e,hv,by simpa using he⟩),rfl,q D ss' hp hs (I.av.fresh hD)⟩
 rw [List.length_map,hp.length_eq]
 exact Nat.le_trans (Nat.le_of_lt h64) (by decide)
end
section
variable {X:Cx}
end
theorem sub_len {α : Type} [DecidableEq α]:∀ {l m:List α},l.Nodup->(∀ x ∈ l,x ∈ m)->l.length<=m.length
 | [],_,_,_=>Nat.zero_le _
 | x :: l,m,nd,h=>by
  rw [List.nodup_cons] at nd
  have hx:=h x (List.mem_cons_self ..)
  have h1:=sub_len (l:=l) (m:=m.erase x) nd.2 fun y hy=>(List.mem_erase_of_ne (fun z=>nd.1 (by rw [<-z];exact hy))).mpr (h y (List.mem_cons_of_mem _ hy))
  rw [List.length_erase_of_mem hx] at h1
  have h2:0 < m.length:=List.length_pos_of_mem hx
  show l.length+1<=m.length
  omega
theorem cO:bootBuiltins "sorted" = some (.builtin "sorted"):=PyProof.Rows.boot_sorted
theorem jN {kvs:List (Key × V)} {k:Key} {v:V}:(putK kvs k v).map (·.1)=kvs.map (·.1)/\k ∈ kvs.map (·.1)\/(putK kvs k v).map (·.1)=kvs.map (·.1) ++ [k]/\¬ k ∈ kvs.map (·.1):=by
 unfold putK
 by_cases h:(kvs.any fun kv=>decide (kv.1=k))=true
 ·rw [if_pos h]
  refine .inl ⟨?_,?_⟩
  ·rw [List.map_map]
   refine List.map_congr_left fun p _=>?_
   show (if p.1=k then (p.1,v) else p).1=p.1
   split <;> rfl
  ·obtain⟨p,hp,he⟩:=List.any_eq_true.mp h
   exact List.mem_map.mpr ⟨p,hp,of_decide_eq_true he⟩
 ·rw [if_neg h]
  refine .inr ⟨by rw [List.map_append];rfl,fun hm=>h ?_⟩
  obtain⟨p,hp,he⟩:=List.mem_map.mp hm
  exact List.any_eq_true.mpr ⟨p,hp,decide_eq_true he⟩
def cX:b7->Str
 | .put x _=>x
 | .copy x _=>x
 | .add x _=>x
 | .read x=>x
 | .tell x=>x
theorem ql (dd:b7):dq (iW dd) 1=some (.str (cX dd)):=by cases dd <;> exact fI
theorem bx.put {H:Hp} {b p:Addr} {o:HO} (h:bx H b) (n:b ≠ p):bx (upd H p o) b:=by
 obtain⟨x,y,e,z⟩:=h
 exact⟨x,y,by rw [ae n];exact e,z⟩
section
variable {X:Cx}
end
section
variable {a0 a1 z:V}
end
section
variable {C D:Addr} {H H':Hp} {wp p pl d nl sl:Addr} {plv:V} {nums:List Int} {S:RS} {m:Nat}
end
section
variable (C D:Addr)
end
section
variable {C D:Addr} {H H':Hp} {wp p pl d nl sl st d2 tl bl np:Addr} {plv:V} {nums nums':List Int} {S S':RS} {m m':Nat}
end
section
variable (C D:Addr)
end
section
variable {C D:Addr} {H0 H H1 H2:Hp} {wp p pl d nl sl st st' d2 tl bl np b:Addr} {plv:V} {nums more:List Int} {S S':RS} {m m':Nat}
end
section
variable {X:Cx}
end
section
variable {ps:List Piece} {nums more:List Int} {S S0:RS} {m n:Nat}
end
section
variable {ps:List Piece} {nums more:List Int} {S:RS} {m n:Nat}
end
inductive Call where
 | hand (ns:List Int)
 | go (n:Nat)
structure tS where
 S:RS
 nums:List Int
 m:Nat
structure WA where
 wp:Addr
 p:Addr
 pl:Addr
 d:Addr
 nl:Addr
 sl:Addr
section
variable {C D:Addr} {H H' H0:Hp} {x y:WA} {pv pv':V} {s s':tS} {c:Addr} {o:HO}
end
section
variable (C D:Addr)
end
section
variable {C D:Addr} {H0 H H1:Hp} {w0 w1 w2:WA} {wl cl nb:Addr} {plv ov:V} {x0 x1 x2 x':tS} {n0 n1 n':List Int} {vs:List V} {cs:List Call}
end
section
variable {prog:Program} {w:World} {A:Around} {E:Value->Shared->Prop} {s:Shared}
theorem kO {j t:Addr} {n:Nat} {its:Array Value} {x:Value} {Q:Value->Shared->Prop} (hj:s.heap.IsTupleIter j t n) (ht:s.heap.IsTuple t its) (hx:its[n]? = some x)
  (hQ:∀ g,g.IsTupleIter j t (n+1)->Heap.SameBut j s.heap g->Q x { s with heap:=g }):wpAny (model prog w) A (Builtin.SmallTypes.nextOf (.ref j)) Q E s:=by
 obtain⟨ob,eo,ec,ed⟩:=id hj
 obtain⟨ot,et,_,k,ek⟩:=ht
 unfold Builtin.SmallTypes.nextOf
 refine wpAny_bind (wpAny_callSpecial?_slot (name:=Str.ofString "__next__") hj.typeIs F.slot_tuple_iterator_next (wpAny_call_entry F.slot_tuple_iterator_next hj.typeIs F.entry_tuple_iterator_next ?_ (F.args_tuple_iterator_next_1 _)))
 show wpAny _ _ (field (.ref j) 0 >>= _) _ _ s
 refine wpAny_bind (wpAny_field eo ed (x:=.ref t) rfl ?_)
 show wpAny _ _ (if (Value.ref t == Value.none)=true then _ else _) _ _ s
 refine (if_neg (c:=(Value.ref t == Value.none)=true) Bool.false_ne_true) ▸ ?_
 show wpAny _ _ (field (.ref j) 1 >>= _) _ _ s
 refine wpAny_bind (wpAny_field eo ed (x:=.int n 0) rfl (wpAny_bind (wpAny_seqItems et ek ?_)))
 simp only [hx,Int.toNat_natCast]
 refine wpAny_bind (wpAny_setField eo ed (by simp) (wpAny_pure ⟨x,rfl,wpAny_pure (hQ _ ⟨_,Heap.get?_update_self _ eo (Obj.isFreed_of_fields (Obj.data_mapFields ed _)),(Obj.cls_mapFields ..).trans ec,?_⟩ (Heap.SameBut.update ..))⟩))
 rw [Obj.data_mapFields ed];simp [rawInt]
theorem mN {j t:Addr} {n:Nat} {its:Array Value} {Q:Value->Shared->Prop} (ha:A.handled=none) (hj:s.heap.IsTupleIter j t n) (ht:s.heap.IsTuple t its) (hx:its[n]? = none)
    (hE:∀ g e,Heap.ExtBut j s.heap g->(∃ o,g.get? e=some o/\o.cls=.type "StopIteration")->E (.ref e) { s with heap:=g }):wpAny (model prog w) A (Builtin.SmallTypes.nextOf (.ref j)) Q E s:=by
  obtain⟨ob,eo,ec,ed⟩:=id hj
  obtain⟨ot,et,_,k,ek⟩:=ht
  unfold Builtin.SmallTypes.nextOf
  refine wpAny_bind (wpAny_callSpecial?_slot (name:=Str.ofString "__next__") hj.typeIs F.slot_tuple_iterator_next (wpAny_call_entry F.slot_tuple_iterator_next hj.typeIs F.entry_tuple_iterator_next ?_ (F.args_tuple_iterator_next_1 _)))
  show wpAny _ _ (field (.ref j) 0 >>= _) _ _ s
  refine wpAny_bind (wpAny_field eo ed (x:=.ref t) rfl ?_)
  show wpAny _ _ (if (Value.ref t == Value.none)=true then _ else _) _ _ s
  refine (if_neg (c:=(Value.ref t == Value.none)=true) Bool.false_ne_true) ▸ ?_
  show wpAny _ _ (field (.ref j) 1 >>= _) _ _ s
  refine wpAny_bind (wpAny_field eo ed (x:=.int n 0) rfl (wpAny_bind (wpAny_seqItems et ek ?_)))
  simp only [hx,Int.toNat_natCast]
  refine wpAny_bind (wpAny_rule (wpAny_bind (wpAny_setField eo ed (by simp) ?_)))
  show wpAny _ _ (newExc (.type "StopIteration") [] >>= fun _=>_) _ _ _
  refine wpAny_bind ?_
  simp only [newTuple,newExc]
  refine wpAny_bind (wpAny_newObj_type (wpAny_bind (m:=firstArgMember _ _) (wpAny_of_eq (a:=Value.none) (by first | rfl | (simp only [firstArgMember];rfl)) (wpAny_newObj_type ?_ (by size_fits)))) (by size_fits))
  simp only [raiseNew]
  refine wpAny_bind (wpAny_handled (by
    first | rw [show A.in1.handled=none from ha] | rw [ha]
    exact wpAny_bind (wpAny_pure (wpAny_throw (hE _ _ (((Heap.SameBut.update ..).extBut.push _).push _) ⟨_,Heap.get?_push_size _ rfl,rfl⟩)))))
structure mO (z p q j k a b:Addr):Prop where
 pz:p ≠ z
 qz:q ≠ z
 jz:j ≠ z
 kz:k ≠ z
 pq:p ≠ q
 pj:p ≠ j
 pk:p ≠ k
 qj:q ≠ j
 qk:q ≠ k
 jk:j ≠ k
 az:a ≠ z
 aq:a ≠ q
 aj:a ≠ j
 ak:a ≠ k
 bz:b ≠ z
 bq:b ≠ q
 bj:b ≠ j
 bk:b ≠ k
theorem d5 {h g:Heap} {a:Addr} {xs:Array Value} (x:h.IsTuple a xs) (k:∀ o,h.get? a=some o->g.get? a=some o):g.IsTuple a xs:=by
 obtain⟨o,e,r⟩:=x
 exact⟨o,k o e,r⟩
theorem rK {z p q j k a b:Addr} {m n:Nat} {xs ys:Array Value} {x y u v:Value} {Q:Value->Shared->Prop} (D:mO z p q j k a b)
  (gz:IsZip s.heap z p q .none) (gp:IsPair s.heap p (.ref j) (.ref k)) (gq:IsPair s.heap q u v)
  (gj:s.heap.IsTupleIter j a m) (gk:s.heap.IsTupleIter k b n) (ga:s.heap.IsTuple a xs) (gb:s.heap.IsTuple b ys) (hx:xs[m]? = some x) (hy:ys[n]? = some y)
  (hQ:∀ g,IsZip g z p q (rawInt s.heap.objs.size)->IsPair g q x y->g.IsTupleIter j a (m+1)->g.IsTupleIter k b (n+1)->IsPair g s.heap.objs.size x y->g.objs.size=s.heap.objs.size+1 ->
   (∀ c o,c ≠ z->c ≠ q->c ≠ j->c ≠ k->s.heap.get? c=some o->g.get? c=some o)->Q (.ref s.heap.objs.size) { s with heap:=g }) :
  wpAny (model prog w) A (Builtin.«zip.__next__» ⟨[.ref z],[]⟩) (fun fin s'=>∃ v,fin=.done (.ret v)/\Q v s') E s:=by
 show wpAny _ _ (field (.ref z) 2 >>= fun _=>_) _ _ _
 refine wpAny_bind (wpAny_field gz rfl (x:=.bool false) rfl ?_)
 show wpAny _ _ (field (.ref z) 3 >>= fun _=>_) _ _ _
 refine wpAny_bind (wpAny_field gz rfl (x:=.ref p) rfl (wpAny_bind (wpAny_seqItems gp rfl ?_)))
 show wpAny _ _ (Builtin.SmallTypes.ownedTupleIsFree (.ref z) >>= fun _=>_) _ _ _
 refine wpAny_bind ?_
 unfold Builtin.SmallTypes.ownedTupleIsFree
 refine wpAny_bind (wpAny_field gz rfl (x:=.none) rfl (wpAny_pure ?_))
 simp only [if_true]
 refine wpAny_bind (wpAny_rule (wpAny_bind (wpAny_field gz rfl (x:=.ref q) rfl (wpAny_bind (wpAny_setField_rec gz (by simp) fun g1 gz1 t1=>?_)))))
 replace gz1:IsZip g1 z p q .ellipsis:=gz1
 refine wpAny_bind ?_
 simp only [List.forIn_cons,List.forIn_nil,List.zipIdx_cons,List.zipIdx_nil]
 refine wpAny_bind (wpAny_bind (wpAny_onRaise ?_))
 show wpAny _ _ (Builtin.SmallTypes.nextOf (.ref j) >>= fun _=>_) _ _ _
 refine wpAny_bind (kO (gj.extBut t1.extBut D.jz) (d5 ga fun o e=>t1.extBut _ _ D.az e) hx fun g2 gj2 t2=>wpAny_pure ?_)
 have gq2:IsPair g2 q u v:=t2.extBut _ _ D.qj (t1.extBut _ _ D.qz gq)
 refine wpAny_bind (wpAny_seqItems gq2 rfl (wpAny_bind (wpAny_updateSeq_pair gq2 fun g3 gq3 t3=>?_)))
 replace gq3:IsPair g3 q x v:=gq3
 refine wpAny_bind (wpAny_letGo (wpAny_pure (wpAny_bind (wpAny_bind (wpAny_onRaise ?_)))))
 show wpAny _ _ (Builtin.SmallTypes.nextOf (.ref k) >>= fun _=>_) _ _ _
 refine wpAny_bind (kO (((gk.extBut t1.extBut D.kz).extBut t2.extBut D.jk.symm).extBut t3.extBut D.qk.symm) (d5 gb fun o e=>t3.extBut _ _ D.bq (t2.extBut _ _ D.bj (t1.extBut _ _ D.bz e))) hy fun g4 gk4 t4=>wpAny_pure ?_)
 have gq4:IsPair g4 q x v:=t4.extBut _ _ D.qk gq3
 refine wpAny_bind (wpAny_seqItems gq4 rfl (wpAny_bind (wpAny_updateSeq_pair gq4 fun g5 gq5 t5=>?_)))
 replace gq5:IsPair g5 q x y:=gq5
 refine wpAny_bind (wpAny_letGo (wpAny_pure (wpAny_pure (wpAny_bind (wpAny_seqItems gq5 rfl (wpAny_bind (wpAny_newTuple ?_)))))))
 have ez:g5.objs.size=s.heap.objs.size:=by rw [t5.1,t4.1,t3.1,t2.1,t1.1]
 have gz5:IsZip g5 z p q .ellipsis:=t5.extBut _ _ D.qz.symm (t4.extBut _ _ D.kz.symm (t3.extBut _ _ D.qz.symm (t2.extBut _ _ D.jz.symm gz1)))
 have k5:∀ c o,c ≠ z->c ≠ q->c ≠ j->c ≠ k->s.heap.get? c=some o->g5.get? c=some o:=fun c o c1 c2 c3 c4 e=>t5.extBut _ _ c2 (t4.extBut _ _ c4 (t3.extBut _ _ c2 (t2.extBut _ _ c3 (t1.extBut _ _ c1 e))))
 have gj5:g5.IsTupleIter j a (m+1):=((gj2.extBut t3.extBut D.qj.symm).extBut t4.extBut D.jk).extBut t5.extBut D.qj.symm
 have gk5:g5.IsTupleIter k b (n+1):=gk4.extBut t5.extBut D.qk.symm
 have lz:z < g5.objs.size:=Heap.lt_size gz5
 show wpAny _ _ (Builtin.SmallTypes.ownedTupleHandOut (.ref z) (.ref g5.objs.size) >>= fun _=>_) _ _ _
 refine wpAny_bind ?_
 unfold Builtin.SmallTypes.ownedTupleHandOut
 have gz6:IsZip (g5.push { cls:=.type "tuple",data:=.seq #[x,y] }) z p q .ellipsis:=Heap.get?_push_of_some _ gz5
 refine wpAny_bind (wpAny_setField_rec gz6 (by simp) fun g7 gz7 t7=>?_)
 replace gz7:IsZip g7 z p q (rawInt g5.objs.size):=gz7
 refine wpAny_setField_rec gz7 (by simp) fun g8 gz8 t8=>?_
 replace gz8:IsZip g8 z p q (rawInt g5.objs.size):=gz8
 have up:∀ c o,c ≠ z->g5.get? c=some o->g8.get? c=some o:=fun c o c1 e=>t8.extBut _ _ c1 (t7.extBut _ _ c1 (Heap.get?_push_of_some _ e))
 have gT:IsPair g8 g5.objs.size x y:=t8.extBut _ _ (Nat.ne_of_gt lz) (t7.extBut _ _ (Nat.ne_of_gt lz) (Heap.get?_push_size _ rfl))
 have e8:g8.objs.size=g5.objs.size+1:=by rw [t8.1,t7.1,Heap.size_push]
 rw [ez] at gz8 gT e8
 refine wpAny_pure ⟨_,rfl,?_⟩
 show Q (.ref g5.objs.size) _
 rw [ez]
 refine hQ g8 gz8 (up _ _ D.qz gq5) ?_ ?_ gT e8 fun c o c1 c2 c3 c4 e=>up c o c1 (k5 c o c1 c2 c3 c4 e)
 ·obtain⟨o,e,r⟩:=gj5
  exact⟨o,up _ _ D.jz e,r⟩
 ·obtain⟨o,e,r⟩:=gk5
  exact⟨o,up _ _ D.kz e,r⟩
theorem tT {z p q j k a b:Addr} {m n:Nat} {xs ys:Array Value} {u v:Value} {Q:Fin->Shared->Prop} (ha:A.handled=none) (D:mO z p q j k a b)
  (gz:IsZip s.heap z p q .none) (gp:IsPair s.heap p (.ref j) (.ref k)) (gq:IsPair s.heap q u v)
  (gj:s.heap.IsTupleIter j a m) (gk:s.heap.IsTupleIter k b n) (ga:s.heap.IsTuple a xs) (gb:s.heap.IsTuple b ys) (hend:xs[m]? = none\/ys[n]? = none)
  (hE:∀ g e,(∀ c o,c ≠ z->c ≠ q->c ≠ j->c ≠ k->s.heap.get? c=some o->g.get? c=some o)->(∃ o,g.get? e=some o/\o.cls=.type "StopIteration")->E (.ref e) { s with heap:=g }) :
  wpAny (model prog w) A (Builtin.«zip.__next__» ⟨[.ref z],[]⟩) Q E s:=by
 show wpAny _ _ (field (.ref z) 2 >>= fun _=>_) _ _ _
 refine wpAny_bind (wpAny_field gz rfl (x:=.bool false) rfl ?_)
 show wpAny _ _ (field (.ref z) 3 >>= fun _=>_) _ _ _
 refine wpAny_bind (wpAny_field gz rfl (x:=.ref p) rfl (wpAny_bind (wpAny_seqItems gp rfl ?_)))
 show wpAny _ _ (Builtin.SmallTypes.ownedTupleIsFree (.ref z) >>= fun _=>_) _ _ _
 refine wpAny_bind ?_
 unfold Builtin.SmallTypes.ownedTupleIsFree
 refine wpAny_bind (wpAny_field gz rfl (x:=.none) rfl (wpAny_pure ?_))
 simp only [if_true]
 refine wpAny_bind (wpAny_rule (wpAny_bind (wpAny_field gz rfl (x:=.ref q) rfl (wpAny_bind (wpAny_setField_rec gz (by simp) fun g1 gz1 t1=>?_)))))
 replace gz1:IsZip g1 z p q .ellipsis:=gz1
 refine wpAny_bind ?_
 simp only [List.forIn_cons,List.forIn_nil,List.zipIdx_cons,List.zipIdx_nil]
 refine wpAny_bind (wpAny_bind (wpAny_onRaise ?_))
 show wpAny _ _ (Builtin.SmallTypes.nextOf (.ref j) >>= fun _=>_) _ _ _
 cases hx:xs[m]? with
 | none =>
  refine wpAny_bind (mN ha (gj.extBut t1.extBut D.jz) (d5 ga fun o e=>t1.extBut _ _ D.az e) hx fun g2 e t2 he=>?_)
  obtain⟨oe,eoe,ce⟩:=he
  have gz2:IsZip g2 z p q .ellipsis:=t2 _ _ D.jz.symm gz1
  have ne:e ≠ z:=fun x=>by subst x;rw [gz2] at eoe;cases eoe;simp at ce
  exact wpAny_setField_rec gz2 (by simp) fun g3 _ t3=>hE g3 e (fun c o c1 _ c3 _ x=>t3.extBut _ _ c1 (t2 _ _ c3 (t1.extBut _ _ c1 x))) ⟨oe,t3.extBut _ _ ne eoe,ce⟩
 | some x =>
  have hy:ys[n]? = none:=hend.elim (fun h=>by rw [hx] at h;cases h) id
  refine wpAny_bind (kO (gj.extBut t1.extBut D.jz) (d5 ga fun o e=>t1.extBut _ _ D.az e) hx fun g2 gj2 t2=>wpAny_pure ?_)
  have gq2:IsPair g2 q u v:=t2.extBut _ _ D.qj (t1.extBut _ _ D.qz gq)
  refine wpAny_bind (wpAny_seqItems gq2 rfl (wpAny_bind (wpAny_updateSeq_pair gq2 fun g3 gq3 t3=>?_)))
  refine wpAny_bind (wpAny_letGo (wpAny_pure (wpAny_bind (wpAny_bind (wpAny_onRaise ?_)))))
  show wpAny _ _ (Builtin.SmallTypes.nextOf (.ref k) >>= fun _=>_) _ _ _
  refine wpAny_bind (mN ha (((gk.extBut t1.extBut D.kz).extBut t2.extBut D.jk.symm).extBut t3.extBut D.qk.symm) (d5 gb fun o e=>t3.extBut _ _ D.bq (t2.extBut _ _ D.bj (t1.extBut _ _ D.bz e))) hy fun g4 e t4 he=>?_)
  obtain⟨oe,eoe,ce⟩:=he
  have gz4:IsZip g4 z p q .ellipsis:=t4 _ _ D.kz.symm (t3.extBut _ _ D.qz.symm (t2.extBut _ _ D.jz.symm gz1))
  have ne:e ≠ z:=fun x=>by subst x;rw [gz4] at eoe;cases eoe;simp at ce
  exact wpAny_setField_rec gz4 (by simp) fun g5 _ t5=>hE g5 e (fun c o c1 c2 c3 c4 x=>t5.extBut _ _ c1 (t4 _ _ c4 (t3.extBut _ _ c2 (t2.extBut _ _ c3 (t1.extBut _ _ c1 x))))) ⟨oe,t5.extBut _ _ ne eoe,ce⟩
theorem rL {z p q j k a b:Addr} {m n:Nat} {xs ys:Array Value} {x y u v:Value} {Q:Option Value->Shared->Prop} (D:mO z p q j k a b)
  (gz:IsZip s.heap z p q .none) (gp:IsPair s.heap p (.ref j) (.ref k)) (gq:IsPair s.heap q u v)
  (gj:s.heap.IsTupleIter j a m) (gk:s.heap.IsTupleIter k b n) (ga:s.heap.IsTuple a xs) (gb:s.heap.IsTuple b ys) (hx:xs[m]? = some x) (hy:ys[n]? = some y)
  (hQ:∀ g,IsZip g z p q (rawInt s.heap.objs.size)->IsPair g q x y->g.IsTupleIter j a (m+1)->g.IsTupleIter k b (n+1)->IsPair g s.heap.objs.size x y->g.objs.size=s.heap.objs.size+1 ->
   (∀ c o,c ≠ z->c ≠ q->c ≠ j->c ≠ k->s.heap.get? c=some o->g.get? c=some o)->Q (some (.ref s.heap.objs.size)) { s with heap:=g }) :
  wpAny (model prog w) A (pyNext (.ref z)) Q E s:=by
 have ty:s.TypeIs (.ref z) "zip" := ⟨_,gz,rfl⟩
 unfold pyNext
 exact wpAny_bind (wpAny_attempt (wpAny_callSpecial?_slot (name:=Str.ofString "__next__") ty F.slot_zip_next (wpAny_call_entry F.slot_zip_next ty F.entry_zip_next
   (rK D gz gp gq gj gk ga gb hx hy fun g a1 a2 a3 a4 a5 a6 a7=>wpAny_pure (hQ g a1 a2 a3 a4 a5 a6 a7)) (F.args_zip_next_1 _))))
theorem rM {z p q j k a b:Addr} {m n:Nat} {xs ys:Array Value} {u v:Value} {Q:Option Value->Shared->Prop} (ha:A.handled=none) (D:mO z p q j k a b)
  (gz:IsZip s.heap z p q .none) (gp:IsPair s.heap p (.ref j) (.ref k)) (gq:IsPair s.heap q u v)
  (gj:s.heap.IsTupleIter j a m) (gk:s.heap.IsTupleIter k b n) (ga:s.heap.IsTuple a xs) (gb:s.heap.IsTuple b ys) (hend:xs[m]? = none\/ys[n]? = none)
  (hQ:∀ g,(∀ c o,c ≠ z->c ≠ q->c ≠ j->c ≠ k->s.heap.get? c=some o->g.get? c=some o)->Q none { s with heap:=g }):wpAny (model prog w) A (pyNext (.ref z)) Q E s:=by
 have ty:s.TypeIs (.ref z) "zip" := ⟨_,gz,rfl⟩
 unfold pyNext
 refine wpAny_bind (wpAny_attempt (wpAny_callSpecial?_slot (name:=Str.ofString "__next__") ty F.slot_zip_next (wpAny_call_entry F.slot_zip_next ty F.entry_zip_next
   (tT ha D gz gp gq gj gk ga gb hend fun g e hk he=>?_) (F.args_zip_next_1 _))))
 obtain⟨o,eo,ec⟩:=he
 exact wpAny_bind (wpAny_isInstance (T := "StopIteration") (b:=true) ⟨o,eo,ec⟩ isSubtype_stop (wpAny_pure (hQ _ hk)))
abbrev oV (h:Heap) (a:Addr):Heap:=h.push { cls:=.type "tuple_iterator",data:=.fields #[.ref a,.int 0 0] }
abbrev qV (h:Heap) (a b:Addr):Heap:=(oV h a).push { cls:=.type "tuple_iterator",data:=.fields #[.ref b,.int 0 0] }
abbrev qW (h:Heap) (a b:Addr):Heap:=(qV h a b).push { cls:=.type "tuple",data:=.seq #[.ref h.objs.size,.ref (oV h a).objs.size] }
abbrev qX (h:Heap) (a b:Addr):Heap:=(qW h a b).push { cls:=.type "tuple",data:=.seq #[.none,.none] }
abbrev mP (h:Heap) (a b:Addr):Heap:=(qX h a b).push { cls:=.type "zip",data:=.fields #[.none,.bool false,.bool false,.ref (qV h a b).objs.size,.ref (qW h a b).objs.size] }
theorem tU (a b:Addr) (xs ys:Array Value):Meets (Builtin.«zip.__new__» ⟨[.type "zip",.ref a,.ref b],[]⟩) (fun _ R s=>s.heap.IsTuple a xs/\s.heap.IsTuple b ys /\
   R (.ok (.ret (.ref (qX s.heap a b).objs.size))) { s with heap:=mP s.heap a b }) :=
 .of_wp fun P w' A' R' s' hh=>by
  obtain⟨hp,g,d,tk,os⟩:=s'
  obtain⟨ga,gb,hh⟩:=hh
  have hsub:=sub_zip
  have la:Heap.IsTuple (Shared.heap ⟨hp,g,d,tk,os⟩) a xs:=ga
  have lb:Heap.IsTuple (Shared.heap ⟨oV hp a,g,d,tk,os⟩) b ys:=d5 gb fun o e=>Heap.get?_push_of_some _ e
  wp_walk using wpAny_pyIter_tuple la,wpAny_pyIter_tuple lb
  exact⟨_,rfl,hh⟩
theorem rN {a b:Addr} {xs ys:Array Value} {Q:Value->Shared->Prop} (ga:s.heap.IsTuple a xs) (gb:s.heap.IsTuple b ys)
  (h:∀ g,IsZip g (s.heap.objs.size+4) (s.heap.objs.size+2) (s.heap.objs.size+3) .none->IsPair g (s.heap.objs.size+2) (.ref s.heap.objs.size) (.ref (s.heap.objs.size+1)) ->
   IsPair g (s.heap.objs.size+3) .none .none->g.IsTupleIter s.heap.objs.size a 0->g.IsTupleIter (s.heap.objs.size+1) b 0 ->
   (∀ c o,s.heap.get? c=some o->g.get? c=some o)->Q (.ref (s.heap.objs.size+4)) { s with heap:=g }) :
  wpAny (model prog w) A (call (.type "zip") [.ref a,.ref b]) Q E s:=by
 refine callType_new F.called_zip (by decide) (F.typeCall_zip_2 _ _) (F.newCall_zip_2 _ _) (fun obj=>F.args_object_init_3 obj _ _) F.entry_zip_new (tU a b xs ys) ⟨ga,gb,?_⟩
 have z1:(oV s.heap a).objs.size=s.heap.objs.size+1:=Heap.size_push ..
 have z2:(qV s.heap a b).objs.size=s.heap.objs.size+2:=by rw [Heap.size_push,z1]
 have z3:(qW s.heap a b).objs.size=s.heap.objs.size+3:=by rw [Heap.size_push,z2]
 have z4:(qX s.heap a b).objs.size=s.heap.objs.size+4:=by rw [Heap.size_push,z3]
 have up:∀ {h:Heap} {c:Addr} {o o':Obj},h.get? c=some o->(h.push o').get? c=some o:=fun e=>Heap.get?_push_of_some _ e
 have q5:(mP s.heap a b).get? (qX s.heap a b).objs.size=some _:=Heap.get?_push_size _ rfl
 have q4:(mP s.heap a b).get? (qW s.heap a b).objs.size=some _:=up (Heap.get?_push_size _ rfl)
 have q3:(mP s.heap a b).get? (qV s.heap a b).objs.size=some _:=up (up (Heap.get?_push_size _ rfl))
 have q2:(mP s.heap a b).get? (oV s.heap a).objs.size=some _:=up (up (up (Heap.get?_push_size _ rfl)))
 have q1:(mP s.heap a b).get? s.heap.objs.size=some _:=up (up (up (up (Heap.get?_push_size _ rfl))))
 show _/\_
 rw [z2,z3,z4] at q5
 rw [z1,z2] at q3
 rw [z3] at q4
 rw [z1] at q2
 rw [z4]
 exact⟨⟨_,q5,rfl⟩,h _ q5 q3 q4 ⟨_,q1,rfl,rfl⟩ ⟨_,q2,rfl,rfl⟩ fun c o x=>up (up (up (up (up x))))⟩
end
section
variable {X:Cx} {pins:List (Addr × Obj)} {σ : List (Option V)} {H H':Hp} {s:Shared} {h':Heap}
theorem Inv.mQ {t':Nat} {fp:List Addr} (I:Inv X pins σ H s) (k:∀ b o,b ∉ fp->s.heap.get? b=some o->h'.get? b=some o) (f:∀ b ∈ fp,d9 X pins H b):Inv X pins σ H { s with heap:=h',toks:=t' }:=by
 have nit:∀ b u,H b=some u->b ∉ fp:=fun b u e z=>by rw [(f b z).1] at e;cases e
 refine I.step (g':=s.gens) (d':=s.drawn) (ch:=fp) (fun b hb=>?_) (fun b o _ _ hc e _=>k b o hc e) (fun b o _ _ hc e _=>⟨o.slots,k b o hc e⟩) (fun _ _ _ _ n=>n)
  (fun b o hc e=>⟨o,k b o hc e⟩) (fun _ _ e=>e) (fun _ _ _ e=>e) (fun b ps e=>⟨#[],by rw [e];simp⟩) (fun m hm=>?_) (fun b u e=>?_) I.bare
 ·obtain⟨f0,f1,f2,f3,f4,f5⟩:=f b hb
  exact⟨f3,f1,f4,f5⟩
 ·obtain⟨o,es,ep,ho,r⟩:=hm
  exact⟨o,es,ep,k _ o (fun z=>(f _ z).2.1 rfl) ho,r⟩
 ·refine (I.av b u e).jc (fun c v hc q=>k c v ?_ q) (fun _ q=>q) fun _ _ q=>q
  rcases hc with z | z
  ·rw [z];exact nit b u e
  ·exact nit c _ z
def qY (K:PySem.W.Frag) (a b:Addr):It :=
 ⟨fun i H=>∃ xs ys x y,ay K H a xs/\ay K H b ys/\xs[i]? = some x/\ys[i]? = some y,
  fun i H v H'=>∃ t x y,v=.ref t/\H t=none/\H' = upd H t (.tup [x,y])/\∀ xs ys,ay K H a xs->ay K H b ys->xs[i]? = some x/\ys[i]? = some y,
  fun i H=>∃ xs ys,ay K H a xs/\ay K H b ys/\(xs.length<=i\/ys.length<=i)⟩
theorem qm {P:Program} {w:World} {K:PySem.W.Frag} {elts:List Expr} {kk:Nat} {pos:Pos} (a b z p q j k:Addr) (D:mO z p q j k a b) :
    Turn P w K (.Tuple elts kk pos) (qY K a b) [z,p,q,j,k] z (fun i h=>IsZip h z p q .none/\IsPair h p (.ref j) (.ref k)/\(∃ u v,IsPair h q u v)/\h.IsTupleIter j a i/\h.IsTupleIter k b i) where
  mem:=by simp
  obj:=fun i h st c hc=>by
    obtain⟨gz,gp,⟨u,v,gq⟩,⟨oj,ej,cj,dj⟩,⟨ok,ek,ck,dk⟩⟩:=st
    simp only [List.mem_cons,List.not_mem_nil,or_false] at hc
    rcases hc with rfl | rfl | rfl | rfl | rfl
    · exact⟨_,gz,fun v e=>by cases e⟩
    · exact⟨_,gp,fun v e=>by cases e⟩
    · exact⟨_,gq,fun v e=>by cases e⟩
    · exact⟨oj,ej,fun v e=>by rw [dj] at e;cases e⟩
    · exact⟨ok,ek,fun v e=>by rw [dk] at e;cases e⟩
  keep:=fun i h g st kp=>by
    obtain⟨gz,gp,⟨u,v,gq⟩,⟨oj,ej,rj⟩,⟨ok,ek,rk⟩⟩:=st
    exact⟨kp z (by simp) _ gz,kp p (by simp) _ gp,⟨u,v,kp q (by simp) _ gq⟩,⟨oj,kp j (by simp) _ ej,rj⟩,⟨ok,kp k (by simp) _ ek,rk⟩⟩
  item:=by
    intro X hP hw hK hc i pins s σ H E I hf st hg
    subst hP hw hK
    obtain⟨gz,gp,⟨u,v,gq⟩,gj,gk⟩:=st
    obtain⟨xs,ys,x,y,ha,hb,hx,hy⟩:=hg
    obtain⟨is,ra,pa,_⟩:=I.tuple ha
    obtain⟨js,rb,pb,_⟩:=I.tuple hb
    obtain⟨xv,hxv,rx⟩:=ra.get hx
    obtain⟨yv,hyv,ry⟩:=rb.get hy
    have sz:∀ c ∈ [z,p,q,j,k],c ≠ s.heap.objs.size:=fun c hc e=>by
      subst e
      simp only [List.mem_cons,List.not_mem_nil,or_false] at hc
      rcases hc with e | e | e | e | e
      · exact absurd (Heap.lt_size gz) (by rw [<-e];exact Nat.lt_irrefl _)
      · exact absurd (Heap.lt_size gp) (by rw [<-e];exact Nat.lt_irrefl _)
      · exact absurd (Heap.lt_size gq) (by rw [<-e];exact Nat.lt_irrefl _)
      · obtain⟨oj,ej,_⟩:=gj
        exact absurd (Heap.lt_size ej) (by rw [<-e];exact Nat.lt_irrefl _)
      · obtain⟨ok,ek,_⟩:=gk
        exact absurd (Heap.lt_size ek) (by rw [<-e];exact Nat.lt_irrefl _)
    refine rL D gz gp gq gj gk (show s.heap.IsTuple a is.toArray from pa) (show s.heap.IsTuple b js.toArray from pb) (x:=xv) (y:=yv) (by simpa using hxv) (by simpa using hyv) fun g a1 a2 a3 a4 a5 a6 hk=>?_
    refine⟨.ref s.heap.objs.size,rfl,wpAny_letOwnedTupleGo_zip a1 fun g' gz' sb=>?_⟩
    have fr:=I.av.fresh (a:=s.heap.objs.size) (Nat.le_refl _)
    have I1:Inv X pins σ (upd H s.heap.objs.size (.tup [x,y])) { s with heap:=s.heap.push { cls:=.type "tuple",data:=.seq #[xv,yv] },toks:=s.toks } :=
      I.laid (fun _ _ e=>Heap.get?_push_of_some _ e) (Nat.le_refl _) ⟨by show 2<=sizeLine;decide,[xv,yv],.cons rx (.cons ry .nil),by first | exact IsTup.new _ _ | exact⟨_,Heap.get?_push_size _ rfl,rfl,_,rfl,rfl⟩⟩
    have f1:∀ c ∈ [z,p,q,j,k],d9 X pins (upd H s.heap.objs.size (.tup [x,y])) c:=fun c hc=>by
      obtain⟨f0,fr'⟩:=hf c hc
      exact⟨by rw [ae (sz c hc)];exact f0,fr'⟩
    have I2:Inv X pins σ (upd H s.heap.objs.size (.tup [x,y])) { s with heap:=g',toks:=s.toks }:=Inv.mQ (s:={ s with heap:=s.heap.push { cls:=.type "tuple",data:=.seq #[xv,yv] },toks:=s.toks }) (fp:=[z,p,q,j,k]) (h':=g') (t':=s.toks) I1 (fun c o hc e=>by
      simp only [List.mem_cons,List.not_mem_nil,or_false,not_or] at hc
      refine sb.extBut _ _ hc.1 ?_
      rcases Heap.get?_push_cases e with ⟨rfl,rfl⟩ | e
      · exact a5
      · exact hk c o hc.1 hc.2.2.1 hc.2.2.2.1 hc.2.2.2.2 e) f1
    refine⟨.ref s.heap.objs.size,_,I2,rfl,⟨_,x,y,rfl,fr,rfl,fun xs' ys' h1 h2=>?_⟩,⟨gz',sb.extBut _ _ D.pz (hk _ _ D.pz D.pq D.pj D.pk gp),⟨xv,yv,sb.extBut _ _ D.qz a2⟩,a3.extBut sb.extBut D.jz,a4.extBut sb.extBut D.kz⟩,fun c hc=>(f1 c hc).1⟩
    rw [I.fS h1 ha,I.fS h2 hb]
    exact⟨hx,hy⟩
  done:=by
    intro X hP hw hK hc i pins s σ H E I hf st hg
    subst hP hw hK
    obtain⟨gz,gp,⟨u,v,gq⟩,gj,gk⟩:=st
    obtain⟨xs,ys,ha,hb,hl⟩:=hg
    obtain⟨is,ra,pa,_⟩:=I.tuple ha
    obtain⟨js,rb,pb,_⟩:=I.tuple hb
    have la:=ra.length
    have lb:=rb.length
    have he:is.toArray[i]? = none\/js.toArray[i]? = none:=by
      rcases hl with h | h
      · exact .inl (by simp;omega)
      · exact .inr (by simp;omega)
    exact rM (I.ok.hd hc) D gz gp gq gj gk (show s.heap.IsTuple a is.toArray from pa) (show s.heap.IsTuple b js.toArray from pb) he fun g hk=>⟨rfl,I.mQ (fp:=[z,p,q,j,k]) (t':=s.toks) (fun c o hc e=>by
      simp only [List.mem_cons,List.not_mem_nil,or_false,not_or] at hc
      exact hk c o hc.1 hc.2.2.1 hc.2.2.2.1 hc.2.2.2.2 e) hf⟩
  self:=fun _ _ _ _ _ st h=>wpAny_pyIter_zip st.1 h
theorem vA {N a b:Nat} (ha:a < N) (hb:b < N):mO (N+4:Nat) (N+2:Nat) (N+3:Nat) N (N+1:Nat) a b :=
 have ne:∀ {u v:Nat},u < v->¬ (u=v):=fun h e=>by omega
 have ne':∀ {u v:Nat},v < u->¬ (u=v):=fun h e=>by omega
 ⟨ne (by omega),ne (by omega),ne (by omega),ne (by omega),ne (by omega),ne' (by omega),ne' (by omega),ne' (by omega),ne' (by omega),ne (by omega),ne (by omega),ne (by omega),ne (by omega),ne (by omega),ne (by omega),ne (by omega),ne (by omega),ne (by omega)⟩
theorem tV:bootBuiltins "zip" = some (.type "zip"):=by decide +kernel
inductive rO (K:PySem.W.Frag) (R:(It->Hp->Prop)) (vs:List V) (H1:Hp):Prop
 | mk (a b:_) (_:vs = [.ref a,.ref b]) (_:(∃ xs,ay K H1 a xs)) (_:(∃ ys,ay K H1 b ys)) (_:R (qY K a b) H1)
def vh (K:PySem.W.Frag) (ta:TA):TI:=fun σ H R=>ta σ H fun vs H1=>rO K R vs H1
theorem tW {a b:Expr} {ta:TA} {p pos tp:Pos} {elts:List Expr} {kk:Nat} (hg:Gl X "zip") (hm:X.mg "zip" = none) (ha:PA X [a,b] ta) (hs:starEach [a,b] X.env = [(false,eval a X.env),(false,eval b X.env)]:=by rfl) (hs2:starEach [b] X.env = [(false,eval b X.env)]:=by rfl) :
  PI X (.Tuple elts kk tp) (.Call (.Name "zip" p) [a,b] [] pos) (vh X.K ta):=by
 intro pins s σ H R I h
 refine Call_ (fR I hg hm tV (PyProof.Rows.callWith_type1 (aK (ha pos pins s σ H _ I h) fun us s1 ⟨vs,H1,I1,r1,q1⟩=>?_) (by rw [hs,hs2]) (by rw [hs2];rfl)))
 obtain⟨x,y,e,⟨xs,hx⟩,⟨ys,hy⟩,q⟩:=q1
 subst e
 cases r1 with
 | cons r rr =>
  cases rr with
  | cons r' rr =>
   cases rr
   cases r
   cases r'
   obtain⟨is,rx,px,_⟩:=I1.tuple hx
   obtain⟨js,ry,py,_⟩:=I1.tuple hy
   have lx:x < s1.heap.objs.size:=px.lt
   have ly:y < s1.heap.objs.size:=py.lt
   refine rN (show s1.heap.IsTuple x is.toArray from px) (show s1.heap.IsTuple y js.toArray from py) fun g gz gp gq gj gk up=>?_
   refine wpAny_pyIter_zip gz ?_
   have I2:Inv X pins σ H1 { s1 with heap:=g }:=I1.kept (t':=s1.toks) up
   refine⟨_,[s1.heap.objs.size+4,s1.heap.objs.size+2,s1.heap.objs.size+3,s1.heap.objs.size,s1.heap.objs.size+1],_,qY X.K x y,H1,rfl,I2,qm x y _ _ _ _ _ ?_,⟨gz,gp,⟨_,_,gq⟩,gj,gk⟩,fun c hc=>?_,q⟩
   ·exact vA lx ly
   ·have le:s1.heap.objs.size<=c:=by
     simp only [List.mem_cons,List.not_mem_nil,or_false] at hc
     rcases hc with rfl | rfl | rfl | rfl | rfl
     ·exact Nat.le_add_right _ _
     ·exact Nat.le_add_right _ _
     ·exact Nat.le_add_right _ _
     ·exact Nat.le_refl _
     ·exact Nat.le_add_right _ _
    exact I1.jd le (I1.av.fresh le)
theorem tX {K:PySem.W.Frag} {a b acc:Addr} {xs ys:List V} {n:Nat} {js:List Nat} {g:TG} {ct:TT} {te:TE} {σ : St} {H1:Hp} {Q:VK} (Pv:Nat->List V->St->Hp->Prop) (h0:Pv 0 [] (jL n js σ) (upd H1 acc (.lst [])))
  (hl:∀ i zs τ H,i<=min xs.length ys.length->Pv i zs τ H->ay K H a xs/\ay K H b ys/\H acc=some (.lst zs)/\zs.length < sizeLine)
  (hs:∀ i x y zs τ H t,xs[i]? = some x->ys[i]? = some y->H t=none->Pv i zs τ H->g (.ref t) τ (upd H t (.tup [x,y])) fun τ1 H4=>ct τ1 H4 fun b H5=>if b=true then te τ1 H5 fun v H6=>H6 acc=some (.lst zs)/\Pv (i+1) (zs ++ [v]) τ1 (upd H6 acc (.lst (zs ++ [v]))) else Pv (i+1) zs τ1 H5)
  (hd:∀ zs τ H,Pv (min xs.length ys.length) zs τ H->Q (.ref acc) H) :
  qS (qY K a b) n js g ct te acc σ H1 Q:=by
 refine⟨fun i m zs τ H=>m=min xs.length ys.length - i/\i<=min xs.length ys.length/\Pv i zs τ H,⟨min xs.length ys.length,by simp,Nat.zero_le _,h0⟩,?_⟩
 rintro i m zs τ H ⟨rfl,hi,p⟩
 obtain⟨qa,qb,q2,q3⟩:=hl i zs τ H hi p
 refine⟨q2,q3,?_⟩
 by_cases hlt:i < min xs.length ys.length
 ·have l1:i < xs.length:=by omega
  have l2:i < ys.length:=by omega
  refine .inr ⟨⟨xs,ys,xs[i],ys[i],qa,qb,by simp [l1],by simp [l2]⟩,Pv (i+1),fun zs' τ' H' p'=>⟨min xs.length ys.length - (i+1),by omega,rfl,hlt,p'⟩,fun v H' y=>?_⟩
  obtain⟨t,x,y,rfl,ht,rfl,h⟩:=y
  obtain⟨h1,h2⟩:=h xs ys qa qb
  exact hs i x y zs τ H t h1 h2 ht p
 ·have e:i=min xs.length ys.length:=by omega
  subst e
  refine .inl ⟨⟨xs,ys,qa,qb,?_⟩,hd zs τ H p⟩
  rcases Nat.le_total xs.length ys.length with h | h
  ·exact .inl (by omega)
  ·exact .inr (by omega)
end
structure qo (K:PySem.W.Frag) (mg:Str->Option Value) (nm:Str) (a:Addr) (D:List (Str × Addr)):Prop where
 vB:mg nm=some (.ref a)
 lk:∃ es ep,K.lookup a=some ⟨.type "dict",none,.dict es ep,#[]⟩/\KTD.Rows (fun d v=>v=Value.ref d) es.toList D
section
variable {prog:Program} {w:World} {A:Around} {E:Value->Shared->Prop} {s:Shared}
theorem qp {a d:Addr} {o:Obj} {es:Array DictEntry} {ep:Nat} {k:Str} {t:Tok} {D:List (Str × Addr)} {Q:Option Value->Shared->Prop} (ho:s.heap.get? a=some o) (hd:o.data=.dict es ep)
  (hr:KTD.Rows (fun d v=>v=Value.ref d) es.toList D) (ha:KTD.datumAt k D=some d) (q:Q (some (.ref d)) { s with toks:=s.toks+1 }):wpAny (model prog w) A (dictGet a (.str k t)) Q E s:=by
 unfold dictGet
 try with_reducible refine wpAny_holding ?_
 refine wpAny_bind (wpAny_pyHash_str (wpAny_bind (KTD.kt_dictFind_strs (s:={ s with toks:=s.toks+1 }) ho hd (by have:=hr.exact;obtain⟨l⟩:=es;simpa using this) ?_)))
 have hq:Q (findBy (fun k v=>v.isStr k) es k) { s with toks:=s.toks+1 }:=by
  obtain⟨v,hv,rfl⟩:=hr.find_some ha
  have e:findBy (fun k v=>v.isStr k) es k=some (.ref d):=by
   rw [<-hv]
   obtain⟨l⟩:=es
   simp [findBy]
  rw [e]
  exact q
 rw [findBy_of_findIdx?] at hq
 cases hi:es.findIdx? fun e=>e.key.isStr k with
 | some i=>rw [hi] at hq;exact wpAny_bind (wpAny_dictEntries (s:={ s with toks:=s.toks+1 }) ho hd (wpAny_pure hq))
 | none=>rw [hi] at hq;exact wpAny_pure hq
theorem qq {a d:Addr} {o:Obj} {es:Array DictEntry} {ep:Nat} {k:Str} {t:Tok} {D:List (Str × Addr)} {Q:Value->Shared->Prop} (ty:s.TypeIs (.ref a) "dict") (ho:s.heap.get? a=some o) (hd:o.data=.dict es ep)
  (hr:KTD.Rows (fun d v=>v=Value.ref d) es.toList D) (ha:KTD.datumAt k D=some d) (q:Q (.ref d) { s with toks:=s.toks+1 }):wpAny (model prog w) A (getItem (.ref a) (.str k t)) Q E s:=by
 unfold getItem
 try with_reducible refine wpAny_holding ?_
 refine wpAny_bind (wpAny_sequenceKey ty (by decide) (wpAny_bind (wpAny_callSpecial?_slot (name:=Str.ofString "__getitem__") ty slot_dict_getitem (wpAny_call_entry slot_dict_getitem ty entry_dict_getitem ?_ (args_dict_getitem _ _)))))
 show wpAny _ _ (dictGet a (.str k t) >>= fun _=>_) _ _ s
 exact wpAny_bind (qp ho hd hr ha (wpAny_pure ⟨_,rfl,wpAny_pure q⟩))
end
section
variable {X:Cx}
theorem jm {nm:Str} {a:Addr} {D:List (Str × Addr)} {i:Expr} {p pos:Pos} {ty:TE} (G:qo X.K X.mg nm a D) (hg:Gl X nm) (hi:PE X i ty) (hs:tO i) (hdb:(nm == ("__debug__" : Str))=false:=by decide) :
  PE X (.Subscript (.Name nm p) i pos) (fun σ H Q=>ty σ H fun y H1=>∃ x d,y=.str x/\KTD.datumAt x D=some d/\Q (.ref d) H1):=by
 intro pins s σ H Q I h
 obtain⟨es,ep,hk,hr⟩:=G.lk
 refine rJ PySem.F.slot_dict_getitem.lookup hs (aK (rl (v:=.ref a) hg G.vB rfl hdb pins s σ H (fun x H1=>x=.ref a/\ty σ H1 fun y H1=>∃ x d,y=.str x/\KTD.datumAt x D=some d/\Q (.ref d) H1) I ⟨rfl,h⟩) fun u s1 ⟨x,H1,I1,rx,ex,q1⟩=>?_)
 subst ex
 obtain rfl:u=Value.ref a:=rx
 refine aK (hi pins s1 σ H1 _ I1 q1) fun iv s2 ⟨y,H2,I2,ry,k,d,ey,hd,q2⟩=>?_
 subst ey
 obtain⟨t,rfl⟩:=(show ∃ t,iv=Value.str k t from ry)
 have ho:=I2.jD a _ hk
 exact⟨⟨_,ho,rfl⟩,qq ⟨_,ho,rfl⟩ ho rfl hr hd ⟨.ref d,H2,I2.tok _,rfl,q2⟩⟩
end
def pick (w:Str) (xs:List V) (ks:List Str):List V:=((xs.zip ks).filter fun p=>decide (p.2=w)).map (·.1)
def eI (w:Str) (xs:List V) (ks:List Str) (i:Nat):List V:=(((xs.zip ks).take i).filter fun p=>decide (p.2=w)).map (·.1)
theorem nJ {w:Str} {xs:List V} {ks:List Str} {i:Nat} {x:V} {k:Str} (hx:xs[i]? = some x) (hk:ks[i]? = some k):eI w xs ks (i+1)=eI w xs ks i++(if k=w then [x] else []):=by
 have hz:(xs.zip ks)[i]? = some (x,k):=by rw [List.getElem?_zip_eq_some];exact⟨hx,hk⟩
 unfold eI
 rw [List.take_add_one,hz,List.filter_append,List.map_append]
 congr 1
 by_cases h:k=w
 ·rw [if_pos h];simp [h]
 ·rw [if_neg h];simp [h]
theorem oW {w:Str} {xs:List V} {ks:List Str}:eI w xs ks (min xs.length (ks.map V.str).length)=pick w xs ks:=by
 unfold eI pick
 rw [List.length_map,List.take_of_length_le (by rw [List.length_zip];exact Nat.le_refl _)]
theorem oX {w:Str} {xs:List V} {ks:List Str} {i:Nat}:(eI w xs ks i).length<=i:=by
 unfold eI
 rw [List.length_map]
 exact Nat.le_trans (List.length_filter_le ..) (by rw [List.length_take];exact Nat.min_le_left ..)
theorem ay.same {K:PySem.W.Frag} {H H':Hp} {a:Addr} {xs:List V} (h:ay K H a xs) (s:ah H H'):ay K H' a xs:=by
 rcases h with h | h
 ·rcases h with h | h
  ·exact .inl (.inl (s _ _ h))
  ·obtain⟨b,hb⟩:=h
   exact .inl (.inr ⟨b,s _ _ hb⟩)
 ·exact .inr h
inductive jn (K:PySem.W.Frag) (vs:List V) (H:Hp) (Q:VK) (_:XK):Prop
 | mk (t s:Addr) (v0:V) (xs:List V) (ks:List Str) (w:Str) (_:vs = [.ref t,.ref s,.str w]) (_:H t=some (.tup (v0 :: xs))) (_:ay K H s (ks.map V.str)) (_:xs.length<=1000) (_:∀ l H',H' l=some (.lst (pick w xs ks))->ah H H'->Q (.ref l) H')
def KTup (K:PySem.W.Frag) (a:Addr) (ks:List Str):Prop:=∃ (o:Obj) (its:Array Value) (n:Nat),K.lookup a=some o/\o.cls=.type "tuple" /\ o.data=.seq its n/\its.size<=sizeLine/\Vals (ks.map V.str) its.toList
structure kP (K:PySem.W.Frag) (mg:Str->Option Value) (aE s0 s1 s2 s3:Addr):Prop where
 tab:qo K mg "END_PARTS" aE [("stop",s0),("go",s1),("less",s2),("is",s3)]
 q0:KTup K s0 []
 q1:KTup K s1 ["piece"]
 q2:KTup K s2 ["name", "number", "piece", "piece"]
 q3:KTup K s3 ["name", "number", "piece", "piece"]
def aB:End->List Nat
 | .stop=>[]
 | .go p=>[p]
 | .dr _ _ _ p q=>[p,q]
def kE:End->List Str
 | .stop=>[]
 | .go _=>["piece"]
 | .dr ..=>["name", "number", "piece", "piece"]
def wE:End->Str
 | .stop => "stop"
 | .go _ => "go"
 | .dr b ..=>wT b
theorem oY (e:End):∃ xs,jj e=.str (wE e) :: xs/\xs.length<=1000/\pick "piece" xs (kE e)=(aB e).map fun k=>V.int (k:Nat):=by
 cases e with
 | stop=>exact⟨[],rfl,by decide,rfl⟩
 | go p=>exact⟨_,rfl,by show 1<=1000;decide,by simp [pick,kE,aB]⟩
 | dr b x n p q =>
  refine⟨_,rfl,by show 4<=1000;decide,?_⟩
  have h1:¬ ("name" : Str) = "piece" := by decide +kernel
  have h2:¬ ("number" : Str) = "piece" := by decide +kernel
  simp [pick,kE,aB,h1,h2]
theorem kP.at_ {K:PySem.W.Frag} {mg:Str->Option Value} {aE s0 s1 s2 s3:Addr} (G:kP K mg aE s0 s1 s2 s3) (e:End):∃ s,KTD.datumAt (wE e) [(("stop" : Str),s0),("go",s1),("less",s2),("is",s3)] = some s/\KTup K s (kE e):=by
 have hit:∀ {k:Str} {d:Addr} {D:List (Str × Addr)},KTD.datumAt k ((k,d) :: D)=some d:=fun {k d D}=>by
  show (if decide (k=k)=true then some d else KTD.datumAt k D)=some d
  rw [if_pos (decide_eq_true rfl)]
 have miss:∀ {k x:Str} {d:Addr} {D:List (Str × Addr)} {o:Option Addr},¬ k=x->KTD.datumAt k D=o->KTD.datumAt k ((x,d) :: D)=o:=fun {k x d D o} h e=>by
  show (if decide (k=x)=true then some d else KTD.datumAt k D)=o
  rw [if_neg (by rw [decide_eq_false h];decide)]
  exact e
 cases e with
 | stop=>exact⟨s0,hit,G.q0⟩
 | go p=>exact⟨s1,miss (show ¬ (("go" : Str) = "stop") by decide +kernel) hit,G.q1⟩
 | dr b x n p q =>
  cases b with
  | true=>exact⟨s2,miss (show ¬ (("less" : Str) = "stop") by decide +kernel) (miss (show ¬ (("less" : Str) = "go") by decide +kernel) hit),G.q2⟩
  | false=>exact⟨s3,miss (show ¬ (("is" : Str) = "stop") by decide +kernel) (miss (show ¬ (("is" : Str) = "go") by decide +kernel) (miss (show ¬ (("is" : Str) = "less") by decide +kernel) hit)),G.q3⟩
inductive i0  (vs:List V) (H:Hp) (Q:VK) (_:XK):Prop
 | mk (ea:Addr) (e:End) (_:vs = [.ref ea]) (_:H ea=some (.tup (jj e))) (_:∀ t H',H' t=some (.tup ((aB e).map fun k=>V.int (k:Nat)))->ah H H'->Q (.ref t) H')
end L2
namespace LS
open PySem
def Up (xs:Array Nat):Prop:=∀ (i j:Nat) (a b:Nat),i < j->xs[i]? = some a->xs[j]? = some b->a < b
theorem qr {xs:Array Nat} {j:Nat} (up:Up xs):∀ (fuel lo hi:Nat),hi - lo<=fuel->lo<=hi->hi<=xs.size ->
  (∀ i a,i < lo->xs[i]? = some a->a < j)->(∀ i a,hi<=i->xs[i]? = some a->j<=a) ->
  (∀ i a,i < SetTable.below.go xs j fuel lo hi->xs[i]? = some a->a < j)/\(∀ i a,SetTable.below.go xs j fuel lo hi<=i->xs[i]? = some a->j<=a)/\SetTable.below.go xs j fuel lo hi<=xs.size:=by
 intro fuel
 induction fuel with
 | zero =>
  intro lo hi h1 h2 h3 h4 h5
  have e:lo=hi:=by omega
  subst e
  unfold SetTable.below.go
  exact⟨h4,h5,h3⟩
 | succ f ih =>
  intro lo hi h1 h2 h3 h4 h5
  unfold SetTable.below.go
  by_cases hl:lo < hi
  ·rw [if_pos hl]
   dsimp only
   have hm:(lo+hi) / 2 < hi:=by omega
   have hm2:lo<=(lo+hi) / 2:=by omega
   generalize (lo+hi) / 2=mid at hm hm2
   have hs:mid < xs.size:=by omega
   have hg:xs[mid]? = some xs[mid]:=by simp [hs]
   have hd:xs.getD mid j=xs[mid]:=by simp [Array.getD,hs]
   rw [hd]
   by_cases hc:xs[mid] < j
   ·rw [if_pos hc]
    refine ih (mid+1) hi (by omega) (by omega) h3 (fun i a hi' he=>?_) h5
    by_cases e:i=mid
    ·subst e;rw [hg] at he;cases he;exact hc
    ·have:=up i mid a _ (by omega) he hg;omega
   ·rw [if_neg hc]
    refine ih lo mid (by omega) hm2 (by omega) h4 (fun i a hi' he=>?_)
    by_cases e:i=mid
    ·subst e;rw [hg] at he;cases he;omega
    ·have:=up mid i _ a (by omega) hg he;omega
  ·rw [if_neg hl]
   have e:lo=hi:=by omega
   subst e
   exact⟨h4,h5,h3⟩
theorem iw {xs:Array Nat} {j:Nat} (up:Up xs) :
    (∀ i a,i < SetTable.below xs j->xs[i]? = some a->a < j)/\(∀ i a,SetTable.below xs j<=i->xs[i]? = some a->j<=a)/\SetTable.below xs j<=xs.size :=
  qr up xs.size 0 xs.size (by omega) (Nat.zero_le _) (Nat.le_refl _) (fun _ _ h=>absurd h (Nat.not_lt_zero _)) (fun i a h e=>by
    have:xs[i]? = none:=by simp;omega
    rw [this] at e;cases e)
theorem kQ {α : Type} {xs:Array α} {p:Nat} {x:α} (hp:p<=xs.size) (i:Nat) :
  (SetTable.insertAt xs p x)[i]? = if i < p then xs[i]? else if i=p then some x else xs[i - 1]?:=by
 unfold SetTable.insertAt
 have h1:(xs.extract 0 p).size=p:=by simp;omega
 rw [Array.getElem?_append]
 have h2:((xs.extract 0 p).push x).size=p+1:=by simp;omega
 rw [h2]
 by_cases a:i < p
 ·rw [if_pos (by omega),if_pos a,Array.getElem?_push,h1,if_neg (by omega)]
  rw [Array.getElem?_extract]
  simp;omega
 ·rw [if_neg a]
  by_cases b:i=p
  ·subst b
   rw [if_pos (by omega),if_pos rfl,Array.getElem?_push,h1,if_pos rfl]
  ·rw [if_neg (by omega),if_neg b]
   rw [Array.getElem?_extract]
   have:p+(i - (p+1))=i - 1:=by omega
   rw [this]
   by_cases c:i - 1 < xs.size
   ·simp;omega
   ·have:xs[i - 1]? = none:=by simp;omega
    rw [this];simp
theorem Up.insert {xs:Array Nat} {j:Nat} (up:Up xs) (hn:xs[SetTable.below xs j]? ≠ some j):Up (SetTable.insertAt xs (SetTable.below xs j) j):=by
 obtain⟨h1,h2,h3⟩:=iw (j:=j) up
 generalize SetTable.below xs j=p at h1 h2 h3 hn
 have h2':∀ i a,p<=i->xs[i]? = some a->j < a:=fun i a hi e=>by
  have q:=h2 i a hi e
  by_cases z:i=p
  ·subst z
   rcases Nat.lt_or_ge j a with c | c
   ·exact c
   ·have:a=j:=by omega
    subst this;exact absurd e hn
  ·have hps:p < xs.size:=by
    have:i < xs.size:=by
     rcases Nat.lt_or_ge i xs.size with c | c
     ·exact c
     ·have:xs[i]? = none:=by simp;omega
      rw [this] at e;cases e
    omega
   have e1:xs[p]? = some xs[p]:=by simp [hps]
   have q1:=h2 p _ (Nat.le_refl _) e1
   have q2:=up p i _ _ (by omega) e1 e
   omega
 intro a b x y hab ha hb
 rw [kQ h3] at ha hb
 by_cases c1:a < p
 ·rw [if_pos c1] at ha
  by_cases d1:b < p
  ·rw [if_pos d1] at hb;exact up a b _ _ hab ha hb
  ·rw [if_neg d1] at hb
   by_cases d2:b=p
   ·rw [if_pos d2] at hb;cases hb;exact h1 a _ c1 ha
   ·rw [if_neg d2] at hb
    exact Nat.lt_trans (h1 a _ c1 ha) (h2' (b - 1) _ (by omega) hb)
 ·rw [if_neg c1] at ha
  by_cases c2:a=p
  ·rw [if_pos c2] at ha;cases ha
   rw [if_neg (by omega),if_neg (by omega)] at hb
   exact h2' (b - 1) _ (by omega) hb
  ·rw [if_neg c2] at ha
   rw [if_neg (by omega),if_neg (by omega)] at hb
   exact up (a - 1) (b - 1) _ _ (by omega) ha hb
def Rp (t:SetTable):Prop:=t.plain=true->Up t.place
theorem qt {t:SetTable} {f:Nat->Int} {h:Int}:∀ (fuel:Nat) (p:SetTable.Probe) (j:Nat) (d:Option Nat),(∀ x,p.dummy=some x->t.place[SetTable.below t.place x]? ≠ some x) ->
  SetTable.probe.go t f h fuel p=some (.empty j d)->t.place[SetTable.below t.place (d.getD j)]? ≠ some (d.getD j):=by
 intro fuel
 induction fuel with
 | zero=>intro p j d _ e;unfold SetTable.probe.go at e;cases e
 | succ n ih =>
  intro p j d hd e
  unfold SetTable.probe.go at e
  have adv:∀ q:SetTable.Probe,(t.advance q).dummy=q.dummy:=fun q=>by unfold SetTable.advance;split <;> rfl
  cases hs:t.slot p.j with
  | empty =>
   rw [hs] at e
   dsimp only at e
   injection e with e
   injection e with e1 e2
   subst e1;subst e2
   unfold SetTable.slot at hs
   dsimp only at hs
   split at hs
   ·cases hs
   ·rename_i hne
    cases hdm:p.dummy with
    | none=>intro z;exact hne (by rw [show (none:Option Nat).getD p.j=p.j from rfl] at z;simpa using z)
    | some x=>exact hd x hdm
  | dummy =>
   rw [hs] at e
   dsimp only at e
   refine ih _ j d (fun x hx=>?_) e
   rw [adv] at hx
   injection hx with hx
   subst hx
   unfold SetTable.slot at hs
   dsimp only at hs
   split at hs
   ·cases hs
   ·rename_i hne
    intro z;exact hne (by simpa using z)
  | live i =>
   rw [hs] at e
   dsimp only at e
   split at e
   ·cases e
   ·exact ih _ j d (fun x hx=>hd x (by rw [adv] at hx;exact hx)) e
theorem kR {t:SetTable} {h:Int} {j:Nat} {b:Bool} (e:t.freeSlot h=some (j,b)):t.place[SetTable.below t.place j]? ≠ some j:=by
 unfold SetTable.freeSlot at e
 split at e
 ·rename_i j' d hp
  injection e with e
  injection e with e1 e2
  subst e1
  unfold SetTable.probe at hp
  exact qt _ _ _ _ (fun x hx=>by cases hx) hp
 ·cases e
theorem Rp.standIn (t:SetTable) (n:Nat):Rp (t.standIn n):=fun h=>by cases h
theorem Rp.layNew {t:SetTable} (r:Rp t) (es:Array (Int × Value)) (h:Int) (x:Value):Rp (layNew t es h x).2.1/\(layNew t es h x).2.1.led=t.led:=by
 unfold PySem.layNew
 split
 ·rename_i j b e
  dsimp only
  unfold SetTable.orStandIn
  split
  ·refine⟨fun hp=>?_,rfl⟩
   exact (r hp).insert (kR e)
  ·exact⟨Rp.standIn _ _,rfl⟩
 ·exact⟨Rp.standIn _ _,rfl⟩
theorem qu (n:Nat) (f:Nat->Option Nat):Up (((List.range n).filterMap fun j=>(f j).map fun k=>(j,k)).map (·.1)).toArray:=by
 have hs:List.Pairwise (· < ·) (((List.range n).filterMap fun j=>(f j).map fun k=>(j,k)).map (·.1)):=by
  have hl:List.Sublist (((List.range n).filterMap fun j=>(f j).map fun k=>(j,k)).map (·.1)) (List.range n):=by
   generalize List.range n=l
   induction l with
   | nil=>exact List.Sublist.refl _
   | cons a l ih =>
    rw [List.filterMap_cons]
    cases e:f a with
    | none=>exact ih.cons a
    | some k=>exact ih.cons₂ a
  exact List.Pairwise.sublist hl List.pairwise_lt_range
 intro i j a b hij ha hb
 rw [List.getElem?_toArray] at ha hb
 have hi:i < _:=(List.getElem?_eq_some_iff.mp ha).1
 have hj:j < _:=(List.getElem?_eq_some_iff.mp hb).1
 have:=List.pairwise_iff_getElem.mp hs i j hi hj hij
 rw [(List.getElem?_eq_some_iff.mp ha).2,(List.getElem?_eq_some_iff.mp hb).2] at this
 exact this
theorem Rp.relayAll (t:SetTable) (es:Array (Int × Value)) (n:Nat):Rp (relayAll t es n).2.1/\(relayAll t es n).2.1.led=t.led:=by
 unfold PySem.relayAll
 split
 ·rename_i t' order e
  dsimp only
  split
  ·unfold SetTable.relaid SetTable.laid at e
   simp only [bind,Option.bind] at e
   split at e
   ·cases e
   ·rename_i owner _
    injection e with e
    injection e with e1 _
    subst e1
    exact⟨fun _=>qu _ _,rfl⟩
  ·exact⟨Rp.standIn _ _,rfl⟩
 ·exact⟨Rp.standIn _ _,rfl⟩
theorem nK {xs:Array Nat} (up:Up xs) {i a:Nat} (e:xs[i]? = some a):SetTable.below xs (a+1)=i+1:=by
 obtain⟨h1,h2,h3⟩:=iw (j:=a+1) up
 have hi:i < xs.size:=(Array.getElem?_eq_some_iff.mp e).1
 rcases Nat.lt_trichotomy (SetTable.below xs (a+1)) (i+1) with c | c | c
 ·have:=h2 i a (by omega) e;omega
 ·exact c
 ·have hs:i+1 < xs.size:=by omega
  have e':xs[i+1]? = some xs[i+1]:=by simp [hs]
  have q1:=h1 (i+1) _ c e'
  have q2:=up i (i+1) _ _ (by omega) e e'
  omega
theorem nL {xs:Array Nat} (up:Up xs):SetTable.below xs 0=0:=by
 obtain⟨h1,h2,h3⟩:=iw (j:=0) up
 rcases Nat.eq_zero_or_pos (SetTable.below xs 0) with c | c
 ·exact c
 ·have e':xs[0]? = some xs[0]:=by simp
  have:=h1 0 _ c e';omega
theorem Up.cu {xs:Array Nat} (h:xs.size<=1):Up xs:=fun i j a b hij ha hb=>by
 have:=(Array.getElem?_eq_some_iff.mp hb).1;omega
open PySem.Spec PyProof.Rows
section
variable {prog:Program} {w:World} {K:Type} [DecidableEq K] {knd:KeyKind prog w K}
variable {A:Around} {E:Value->Shared->Prop} {s:Shared}
def Ent (knd:KeyKind prog w K) (e:Int × Value) (k:K):Prop:=knd.is k e.2=true/\e.1=knd.hash k/\e.2.scannable=true
structure bB (knd:KeyKind prog w K) (h:Heap) (a:Addr) (ks:List K) (o:Obj) (es:Array (Int × Value)) (ep:Nat) (t:SetTable):Prop where
 at_:h.get? a=some o
 ex:o.ExactSet
 data:o.data=.set es ep t
 ents:∃ ls:List K,ls.Perm ks/\Paired (Ent knd) es.toList ls
 nd:ks.Nodup
 cu:es.size < scanBound
 fits:t.fits es.size=true
 led:t.led = !(w.params.followText "set-order")
 up:Rp t
def bS (knd:KeyKind prog w K) (h:Heap) (a:Addr) (ks:List K):Prop:=∃ o es ep t,bB knd h a ks o es ep t
theorem eR {α β : Type} {F:α->β->Prop}:∀ {l l':List α},l.Perm l'->∀ {m':List β},Paired F l' m'->∃ m,m.Perm m'/\Paired F l m:=by
 intro l l' p
 induction p with
 | nil=>intro m' h;exact⟨m',.refl _,h⟩
 | cons x p ih =>
  intro m' h
  cases h with
  | cons r t=>obtain⟨m,q,e⟩:=ih t;exact⟨_,q.cons _,.cons r e⟩
 | swap x y l =>
  intro m' h
  cases h with
  | cons r t=>cases t with
   | cons r' t'=>exact⟨_,.swap _ _ _,.cons r' (.cons r t')⟩
 | trans p q ih1 ih2 =>
  intro m' h
  obtain⟨m1,a1,b1⟩:=ih2 h
  obtain⟨m2,a2,b2⟩:=ih1 b1
  exact⟨m2,a2.trans a1,b2⟩
theorem dY {α β : Type} {F:α->β->Prop}:∀ {l:List α} {m:List β},Paired F l m->(∀ x ∈ l,∃ y ∈ m,F x y)/\(∀ y ∈ m,∃ x ∈ l,F x y)
 | _,_,.nil=>⟨(fun _ h=>nomatch h),(fun _ h=>nomatch h)⟩
 | _,_,.cons r t=>by
  obtain⟨h1,h2⟩:=dY t
  refine⟨fun x hx=>?_,fun y hy=>?_⟩
  ·rcases List.mem_cons.mp hx with rfl | hx
   ·exact⟨_,List.mem_cons_self ..,r⟩
   ·obtain⟨y,hy,f⟩:=h1 x hx;exact⟨y,List.mem_cons_of_mem _ hy,f⟩
  ·rcases List.mem_cons.mp hy with rfl | hy
   ·exact⟨_,List.mem_cons_self ..,r⟩
   ·obtain⟨x,hx,f⟩:=h2 y hy;exact⟨x,List.mem_cons_of_mem _ hx,f⟩
theorem hX {α β : Type} {F:α->β->Prop} {x:α} {y:β} (f:F x y):∀ {l:List α} {m:List β},Paired F l m->Paired F (l ++ [x]) (m ++ [y])
 | _,_,.nil=>.cons f .nil
 | _,_,.cons r t=>.cons r (hX f t)
variable {a:Addr} {ks:List K} {o:Obj} {es:Array (Int × Value)} {ep:Nat} {t:SetTable} {h h':Heap}
theorem bB.elems (S:bB knd h a ks o es ep t):ElemsOf knd es.toList:=fun e he=>by
 obtain⟨ls,_,p⟩:=S.ents
 obtain⟨k,_,f⟩:=(dY p).1 e he
 exact⟨⟨k,f.1,f.2.1⟩,f.2.2⟩
theorem bB.len (S:bB knd h a ks o es ep t):es.size=ks.length:=by
 obtain⟨ls,q,p⟩:=S.ents
 rw [<-Array.length_toList,p.length,q.length_eq]
theorem bB.mem (S:bB knd h a ks o es ep t) (k:K):k ∈ ks ↔ ∃ e ∈ es.toList,knd.is k e.2=true:=by
 obtain⟨ls,q,p⟩:=S.ents
 rw [<-q.mem_iff]
 constructor
 ·intro hk
  obtain⟨e,he,f⟩:=(dY p).2 k hk
  exact⟨e,he,f.1⟩
 ·rintro⟨e,he,f⟩
  obtain⟨k',hk',f'⟩:=(dY p).1 e he
  rw [knd.inj e.2 k k' f f'.1];exact hk'
theorem bB.setOf (S:bB knd h a ks o es ep t):h.SetOf knd a (fun k=>decide (k ∈ ks)) ks.length :=
 ⟨o,es,ep,t,S.at_,S.ex,S.data,S.elems,fun k=>by rw [decide_eq_true_eq];exact S.mem k,S.cu,S.fits,S.len⟩
theorem bB.keep (S:bB knd h a ks o es ep t) (k:∀ o,h.get? a=some o->h'.get? a=some o):bB knd h' a ks o es ep t:={ S with at_:=k _ S.at_ }
theorem bS.keep (S:bS knd h a ks) (k:∀ o,h.get? a=some o->h'.get? a=some o):bS knd h' a ks:=let ⟨o,es,ep,t,S⟩:=S;⟨o,es,ep,t,S.keep k⟩
theorem bS.setOf (S:bS knd h a ks):h.SetOf knd a (fun k=>decide (k ∈ ks)) ks.length:=let ⟨_,_,_,_,S⟩:=S;S.setOf
theorem kT {o:Obj} {es es':Array (Int × Value)} {ep:Nat} {t t':SetTable} (hd:o.data=.set es ep t):Obj.putSet es' t' o = { o with data:=.set es' (ep+1) t' }:=putSet_of es' t' hd
theorem bB.store {es':Array (Int × Value)} {t':SetTable} {ks':List K} (S:bB knd h a ks o es ep t) (he:∃ ls:List K,ls.Perm ks'/\Paired (Ent knd) es'.toList ls) (nd:ks'.Nodup) (cu:es'.size < scanBound)
  (fits:t'.fits es'.size=true) (led:t'.led=t.led) (up:Rp t'):bB knd (h.update a (Obj.putSet es' t')) a ks' { o with data:=.set es' (ep+1) t' } es' (ep+1) t' where
 at_:=by
  have q:=Heap.get?_update_self (Obj.putSet es' t') S.at_ (by rw [kT S.data];rfl)
  rw [kT S.data] at q
  exact q
 ex:=S.ex
 data:=rfl
 ents:=he
 nd:=nd
 cu:=cu
 fits:=fits
 led:=led.trans S.led
 up:=up
theorem ix {g:Bool->Sem Unit} (hg:∀ (b:Bool) (s₁ : Shared) (Q':Unit->Shared->Prop),Q' () s₁->wpAny (model prog w) A (g b) Q' E s₁) {es1:Array (Int × Value)} {t2:SetTable} {ks':List K}
  (S:bB knd s.heap a ks o es ep t) (he:∃ ls:List K,ls.Perm ks'/\Paired (Ent knd) es1.toList ls) (nd:ks'.Nodup) (cu:es1.size < scanBound) (fits:t2.fits es1.size=true) (led:t2.led=t.led) (up:Rp t2) {wd:Bool}
  {R:Option Bool->Shared->Prop} (q:∀ h',Heap.SameBut a s.heap h'->bS knd h' a ks'->R (some true) { s with heap:=h' }) :
  wpAny (model prog w) A (storeSet a es1 t2 >>= fun _=>if (!wd && t2.tooFull)=true then g (relayAll t2 es1 (SetTable.grown es1.size)).2.2 >>= fun _ =>
   storeSet a (relayAll t2 es1 (SetTable.grown es1.size)).1 (relayAll t2 es1 (SetTable.grown es1.size)).2.1 >>= fun _=>pure (some true) else pure (some true)) R E s:=by
 refine wpAny_bind (wpAny_storeSet_of S.at_ S.data ?_ (fits_of_scanBound cu))
 have S1:=S.store he nd cu fits led up
 have b1:=Heap.SameBut.update s.heap a (Obj.putSet es1 t2)
 by_cases hc:(!wd && t2.tooFull)=true
 ·rw [if_pos hc]
  have p1:=relayAll_perm t2 es1 (SetTable.grown es1.size)
  have p2:=relayAll_fits t2 es1 (SetTable.grown es1.size)
  have p3:=Rp.relayAll t2 es1 (SetTable.grown es1.size)
  generalize relayAll t2 es1 (SetTable.grown es1.size)=R3 at p1 p2 p3
  obtain⟨es3,t3,gv⟩:=R3
  obtain⟨ls,l1,l2⟩:=he
  obtain⟨ls3,l3,l4⟩:=eR p1 l2
  have z:es3.size=es1.size:=by rw [<-Array.length_toList,p1.length_eq,Array.length_toList]
  have few3:es3.size < scanBound:=by rw [z];exact cu
  refine wpAny_bind (hg _ _ _ ?_)
  refine wpAny_bind (wpAny_storeSet_of S1.at_ S1.data ?_ (fits_of_scanBound few3))
  exact wpAny_pure (q _ (b1.trans (Heap.SameBut.update _ a _)) ⟨_,_,_,_,S1.store ⟨ls3,l3.trans l1,l4⟩ nd few3 p2 p3.2 p3.1⟩)
 ·rw [if_neg hc]
  exact wpAny_pure (q _ b1 ⟨_,_,_,_,S1⟩)
theorem nM {k:K} {x:Value} {Q:Bool->Shared->Prop} (hk:knd.is k x=true) (hsc:x.scannable=true) (S:bS knd s.heap a ks) (room:ks.length+1 < scanBound)
  (q:∀ h',Heap.SameBut a s.heap h'->bS knd h' a (if k ∈ ks then ks else ks ++ [k])->Q (!decide (k ∈ ks)) { s with heap:=h' }) :
  wpAny (model prog w) A (setAddHashed a x (knd.hash k)) Q E s:=by
 obtain⟨o,es,ep,t,S⟩:=S
 have few1:es.size+1 < scanBound:=by rw [S.len];exact room
 unfold setAddHashed setAddHashedIn
 refine wpAny_holding (wpAny_bind (wpAny_setState_of S.at_ S.data S.fits ?_))
 dsimp only
 rw [byScan_of hsc S.cu S.elems]
 simp only [↓reduceIte]
 unfold setAddByScan
 refine wpAny_bind (wpAny_bind (wpAny_rule ?_))
 refine wpAny_bind (wpAny_setScan_of hk S.at_ S.data S.fits S.elems ?_)
 cases hr:List.findIdx? (fun e=>knd.is k e.2) es.toList with
 | some j =>
  obtain⟨hj,hpj,_⟩:=List.findIdx?_eq_some_iff_getElem.mp hr
  have hin:k ∈ ks:=(S.mem k).mpr ⟨es.toList[j],List.getElem_mem hj,hpj⟩
  refine wpAny_pure (wpAny_pure ?_)
  have:=q s.heap (Heap.SameBut.refl a s.heap) (by rw [if_pos hin];exact⟨o,es,ep,t,S⟩)
  rw [decide_eq_true hin] at this
  exact this
 | none =>
  have hin:¬ k ∈ ks:=fun z=>by
   obtain⟨e,he,hp⟩:=(S.mem k).mp z
   have:=List.findIdx?_eq_none_iff.mp hr e he
   rw [hp] at this;exact Bool.noConfusion this
  rw [if_neg hin,decide_eq_false hin] at q
  have p1:=layNew_perm t es (knd.hash k) x
  have p2:=layNew_fits t es (knd.hash k) x
  have p3:=S.up.layNew es (knd.hash k) x
  dsimp only
  generalize layNew t es (knd.hash k) x=L at p1 p2 p3 ⊢
  obtain⟨es1,t1,wd,gv⟩:=L
  dsimp only at p1 p2 p3 ⊢
  rw [Array.toList_push] at p1
  have hE:∃ ls:List K,ls.Perm (ks ++ [k])/\Paired (Ent knd) es1.toList ls:=by
   obtain⟨ls,l1,l2⟩:=S.ents
   obtain⟨m,m1,m2⟩:=eR p1 (hX (F:=Ent knd) (x:=(knd.hash k,x)) (y:=k) ⟨hk,rfl,hsc⟩ l2)
   exact⟨m,m1.trans (l1.append_right _),m2⟩
  have nd1:(ks ++ [k]).Nodup:=by
   rw [List.nodup_append]
   exact⟨S.nd,by simp,fun y hy z hz e=>hin (by rw [List.mem_singleton] at hz;rw [<-hz,<-e];exact hy)⟩
  have few2:es1.size < scanBound:=by rw [<-Array.length_toList,p1.length_eq,List.length_append,Array.length_toList];simpa using few1
  have gw:∀ (b:Bool) (s₁ : Shared) (Q':Unit->Shared->Prop),Q' () s₁->wpAny (model prog w) A (match b with | true=>rule "set.scan.the-table-gave-way" | false=>pure ()) Q' E s₁:=fun b s₁ Q' hq=>by
   cases b
   ·exact wpAny_pure hq
   ·exact wpAny_rule hq
  refine wpAny_bind (gw _ _ _ ?_)
  by_cases hp:t1.plain=true
  ·rw [if_pos hp]
   refine wpAny_bind ?_
   rw [hashByValue_scannable 8 hsc]
   refine wpAny_pure ?_
   by_cases hv:plainKind x=true
   ·rw [if_pos hv]
    exact ix gw S hE nd1 few2 p2 p3.2 p3.1 fun h' b Sk=>wpAny_pure (q h' b Sk)
   ·rw [if_neg hv]
    exact ix gw S hE nd1 few2 (SetTable.fits_plain_off p2) p3.2 (fun z=>by cases z) fun h' b Sk=>wpAny_pure (q h' b Sk)
  ·rw [if_neg hp]
   refine wpAny_bind (wpAny_pure ?_)
   rw [if_pos rfl]
   exact ix gw S hE nd1 few2 p2 p3.2 p3.1 fun h' b Sk=>wpAny_pure (q h' b Sk)
theorem gf {led:Bool} (hl:led = !(w.params.followText "set-order")) (at_:h.get? a=some { cls:=.type "set",dict:=none,data:=.set #[] 0 (.fresh 0 0 led) }):bS knd h a [] :=
 ⟨_,#[],0,_,at_,⟨rfl,rfl,rfl⟩,rfl,⟨[],.refl _,.nil⟩,List.nodup_nil,by decide,by rfl,hl,fun _=>Up.cu (Nat.zero_le _)⟩
end
theorem fq {α : Type}:∀ (l:List α) (i:Nat) (h:i < l.length),(l[i] :: l.eraseIdx i).Perm l
 | x :: l,0,_=>.refl _
 | x :: l,i+1,h=>by
  have hi:i < l.length:=by simpa using h
  have ih:=fq l i hi
  show (l[i] :: x :: l.eraseIdx i).Perm (x :: l)
  exact (List.Perm.swap x _ _).trans (ih.cons x)
theorem oZ {α : Type} (f:Nat->Nat):∀ (n k:Nat) (l:List α) (out:Array α),l.length=n->(pickOrder.go f n k l out).toList.Perm (out.toList++l):=by
 intro n
 induction n with
 | zero =>
  intro k l out hl
  have:l = []:=List.length_eq_zero_iff.mp hl
  subst this
  unfold pickOrder.go
  simp
 | succ n ih =>
  intro k l out hl
  unfold pickOrder.go
  have hlt:f k % l.length < l.length:=Nat.mod_lt _ (by omega)
  rw [List.getElem?_eq_getElem hlt]
  dsimp only
  refine (ih _ _ _ (by rw [List.length_eraseIdx_of_lt hlt];omega)).trans ?_
  rw [Array.toList_push,List.append_assoc]
  refine List.Perm.append_left _ ?_
  exact fq _ _ hlt
theorem dz {α : Type} (f:Nat->Nat) (xs:Array α):(pickOrder f xs).toList.Perm xs.toList:=by
 unfold pickOrder
 have:=oZ f xs.size 0 xs.toList #[] (by simp)
 simpa using this
section
variable {prog:Program} {w:World} {A:Around} {E:Value->Shared->Prop} {s:Shared}
theorem gO {Q:Bool->Shared->Prop} (q:Q (w.params.followText "set-order") s):wpAny (model prog w) A setsByText Q E s:=by
 unfold setsByText
 exact wpAny_bind (wpAny_askSetting (wpAny_pure q))
theorem rP {src:Source} {n:Nat} {Q:Nat->Shared->Prop} (hn:n ≠ 0) (q:∀ (i:Nat) (d:_),i < n->Q i { s with drawn:=d }):wpAny (model prog w) A (choose src n) Q E s:=by
 intro Γ p hΓ
 show Sem.wp _ _ (.choose src n .pure) _ _ _ _
 rw [Sem.wp_choose]
 exact⟨hn,q _ _ (Nat.mod_lt _ (Nat.pos_of_ne_zero hn))⟩
theorem uE:∀ (n:Nat) (xs:List Nat) (s:Shared) {Q:List Nat->Shared->Prop},xs.length=n->(∀ (ys:List Nat) (d:_),ys.Perm xs->Q ys { s with drawn:=d })->wpAny (model prog w) A (drawOrder n xs) Q E s:=by
 intro n
 induction n with
 | zero =>
  intro xs s Q hl q
  have:xs = []:=List.length_eq_zero_iff.mp hl
  subst this
  unfold drawOrder
  exact wpAny_pure (q [] s.drawn (.refl _))
 | succ n ih =>
  intro xs s Q hl q
  cases xs with
  | nil=>cases hl
  | cons x0 xs =>
   unfold drawOrder
   refine wpAny_bind (rP (by simp) fun i d hi=>?_)
   rw [List.getElem?_eq_getElem hi]
   dsimp only
   refine wpAny_bind (ih _ _ (by rw [List.length_eraseIdx_of_lt hi];omega) fun ys d' hp=>?_)
   refine wpAny_pure (q _ d' ?_)
   exact (hp.cons _).trans (fq _ _ hi)
end
section
variable {prog:Program} {w:World} {K:Type} [DecidableEq K] {knd:KeyKind prog w K}
variable {A:Around} {E:Value->Shared->Prop} {s:Shared} {a:Addr} {ks:List K} {o:Obj} {es:Array (Int × Value)} {ep:Nat} {t:SetTable}
theorem o1 {slot i:Nat} {Q:Option (Value × Nat)->Shared->Prop} (S:bB knd s.heap a ks o es ep t) (hb:w.params.followText "set-order" = true)
  (q:Q (((pickOrder (w.params.setOrder a ep) es)[i]?).map fun e=>(e.2,slot)) s):wpAny (model prog w) A (setNext a slot i ep) Q E s:=by
 unfold setNext
 refine wpAny_bind (wpAny_setState_of S.at_ S.data S.fits ?_)
 dsimp only
 refine wpAny_bind (gO ?_)
 rw [hb,if_pos rfl]
 rw [if_neg (by simp)]
 unfold setWalk
 refine wpAny_bind (wpAny_bind (wpAny_setState_of S.at_ S.data S.fits ?_))
 dsimp only
 refine wpAny_bind (gO ?_)
 rw [hb,if_pos rfl]
 exact wpAny_bind (wpAny_askSetting (wpAny_pure (wpAny_pure q)))
theorem o2 {slot i:Nat} {Q:Option (Value × Nat)->Shared->Prop} (S:bB knd s.heap a ks o es ep t) (hb:w.params.followText "set-order" = false) (hd:t.plain=true\/es.size<=1) (hs:SetTable.below t.place slot=i)
  (q:Q (match es[i]?,t.place[i]? with | some (_,x),some j=>some (x,j+1) | _,_=>none) s):wpAny (model prog w) A (setNext a slot i ep) Q E s:=by
 unfold setNext
 refine wpAny_bind (wpAny_setState_of S.at_ S.data S.fits ?_)
 dsimp only
 refine wpAny_bind (gO ?_)
 rw [hb,if_neg Bool.false_ne_true]
 refine wpAny_ite_split (fun h=>absurd (show (!t.plain && decide (es.size > 1))=true from h) ?_) (fun _=>?_)
 ·rcases hd with h | h
  ·rw [h];simp
  ·rw [show decide (es.size > 1)=false by simp;omega];simp
 have hl:t.led=true:=by rw [S.led,hb];rfl
 refine wpAny_bind ?_
 show wpAny _ _ (if (!t.led && !es.isEmpty)=true then unsupported "set:maker-not-led" else pure ()) _ _ s
 rw [hl,if_neg (by simp)]
 refine wpAny_pure ?_
 rw [hs]
 exact wpAny_pure q
theorem tY {i:Nat} {e:Int × Value} {Q:Value->Shared->Prop} (S:bB knd s.heap a ks o es ep t) (he:es[i]? = some e) (q:Q e.2 s):wpAny (model prog w) A (setNextDrawn a i ep) Q E s:=by
 unfold setNextDrawn
 refine wpAny_bind (wpAny_setState_of S.at_ S.data S.fits ?_)
 dsimp only
 rw [if_neg (by simp)]
 rw [he]
 exact wpAny_pure q
theorem slot_next:Slot "set_iterator" "__next__" "set_iterator.__next__" :=
  Slot.of (owner := "set_iterator") (n := "__next__")
    (by rw [typeLookup_type,builtinLookup_eq_fast]
        kernel_rfl)
    (by decide +kernel)
    (by decide +kernel)
    (by decide +kernel)
    (by first
      | exact .inl (by decide +kernel)
      | exact .inr (by decide +kernel))
    (by rw [isSubtype_type]
        kernel_rfl)
theorem entry_next:entryFor table "set_iterator.__next__" = some Builtin.«set_iterator.__next__» :=
 entryFor_of_tree (by kernel_rfl)
theorem jO:Manifest.owners.lookup (String.ofList ['r','o','t','a','r','e','t','i','_','t','e','s'].reverse)=some Manifest.sig_set_iterator:=by
 kernel_rfl
theorem args_next (v:Value):argsOk "set_iterator.__next__" ⟨[v],[]⟩:=by
 unfold argsOk
 rw [signature?_of (id := "set_iterator.__next__") (n:=['_','_','t','x','e','n','_','_']) (o:=['r','o','t','a','r','e','t','i','_','t','e','s'])
  (by kernel_rfl) jO]
 kernel_rfl
end
def cg (h:Heap) (I:Addr) (first:Value) (i:Nat) (a:Addr) (n ep:Nat):Prop :=
 ∃ oI,h.get? I=some oI/\oI.cls=.type "set_iterator" /\ oI.data=.fields #[first,.int i 0,.ref a,.int n 0,.int ep 0]
theorem cg.type {s:Shared} {I:Addr} {first:Value} {i:Nat} {a:Addr} {n ep:Nat} (h:cg s.heap I first i a n ep):s.TypeIs (.ref I) "set_iterator" := let ⟨o,e,c,_⟩:=h;⟨o,e,c⟩
theorem cg.keep {h h':Heap} {I:Addr} {first:Value} {i:Nat} {a:Addr} {n ep:Nat} (x:cg h I first i a n ep) (k:∀ o,h.get? I=some o->h'.get? I=some o):cg h' I first i a n ep :=
 let ⟨o,e,c⟩:=x;⟨o,k _ e,c⟩
section
variable {prog:Program} {w:World} {K:Type} [DecidableEq K] {knd:KeyKind prog w K}
variable {A:Around} {E:Value->Shared->Prop} {s:Shared} {a I:Addr} {ks:List K} {o:Obj} {es:Array (Int × Value)} {ep:Nat} {t:SetTable}
theorem kU {slot nx i:Nat} {x:Value} {Q:Option Value->Shared->Prop} (hit:cg s.heap I (.int slot 0) i a es.size ep) (S:bB knd s.heap a ks o es ep t)
  (hn:∀ (A:Around) (E:Value->Shared->Prop) (Q:Option (Value × Nat)->Shared->Prop),Q (some (x,nx)) s->wpAny (model prog w) A (setNext a slot i ep) Q E s)
  (q:∀ h',cg h' I (.int nx 0) (i+1) a es.size ep->Heap.SameBut I s.heap h'->Q (some x) { s with heap:=h' }):wpAny (model prog w) A (pyNext (.ref I)) Q E s:=by
 obtain⟨oI,ho,hc,hd⟩:=id hit
 unfold pyNext
 refine wpAny_bind (wpAny_attempt (wpAny_callSpecial?_slot (name:=Str.ofString "__next__") hit.type slot_next (wpAny_call_entry slot_next hit.type entry_next ?_ (args_next _))))
 unfold Builtin.«set_iterator.__next__»
 refine wpAny_bind (wpAny_pure ?_)
 refine wpAny_bind (wpAny_fieldsOf ho hd ?_)
 dsimp only
 refine wpAny_bind (wpAny_setEntries_of S.at_ S.data S.fits ?_)
 rw [if_neg (by simp)]
 simp only [Int.toNat_natCast]
 refine wpAny_bind (hn _ _ _ ?_)
 dsimp only
 refine wpAny_bind (wpAny_setField ho hd (by simp) ?_)
 have d1:(Obj.mapFields (·.setIfInBounds 0 (rawInt (nx:Int))) oI).data=.fields #[.int nx 0,.int i 0,.ref a,.int es.size 0,.int ep 0]:=by rw [Obj.data_mapFields hd];simp [rawInt]
 have g1:=Heap.get?_update_self (Obj.mapFields (·.setIfInBounds 0 (rawInt (nx:Int)))) ho (Obj.isFreed_of_fields (Obj.data_mapFields hd _))
 refine wpAny_bind (wpAny_setField g1 d1 (by simp) ?_)
 refine wpAny_pure ⟨_,rfl,wpAny_pure (q _ ⟨_,Heap.get?_update_self _ g1 (Obj.isFreed_of_fields (Obj.data_mapFields d1 _)),?_,?_⟩ ((Heap.SameBut.update ..).trans (Heap.SameBut.update ..)))⟩
 ·exact (Obj.cls_mapFields ..).trans ((Obj.cls_mapFields ..).trans hc)
 ·rw [Obj.data_mapFields d1];simp [rawInt]
theorem hZ {Q:Option Value->Shared->Prop} {s0:Shared} (hh:A.handled=none) (hk:∀ b o,b ≠ I->s0.heap.get? b=some o->s.heap.get? b=some o)
  (q:∀ h',(∀ b o,b ≠ I->s0.heap.get? b=some o->h'.get? b=some o)->Q none { s with heap:=h' }) :
  wpAny (model prog w) A.in1 (newExc (.type "StopIteration") [] >>= fun e=>(raiseNew e:Sem Fin)) (fun _ _=>False)
   (fun e s'=>wpAny (model prog w) A (isInstance e (.type "StopIteration") >>= fun b=>if b=true then pure none else throw e) Q E s') s:=by
 refine wpAny_bind ?_
 simp only [newExc,newTuple]
 refine wpAny_bind (wpAny_newObj_type ?_ (by size_fits))
 refine wpAny_bind (m:=firstArgMember _ _) (wpAny_of_eq (a:=Value.none) (by first | rfl | (simp only [firstArgMember];rfl)) ?_)
 refine wpAny_newObj_type ?_ (by size_fits)
 simp only [raiseNew]
 refine wpAny_bind (wpAny_handled ?_)
 rw [show A.in1.handled=none from hh]
 refine wpAny_bind (wpAny_pure (wpAny_throw ?_))
 refine wpAny_bind (wpAny_isInstance (T := "StopIteration") (b:=true) ⟨_,Heap.get?_push_size _ rfl,rfl⟩ isSubtype_stop ?_)
 exact wpAny_pure (q _ fun b o hb e=>Heap.get?_push_of_some _ (Heap.get?_push_of_some _ (hk b o hb e)))
theorem mR {slot i:Nat} {Q:Option Value->Shared->Prop} (hh:A.handled=none) (hit:cg s.heap I (.int slot 0) i a es.size ep) (S:bB knd s.heap a ks o es ep t)
  (hn:∀ (A:Around) (E:Value->Shared->Prop) (Q:Option (Value × Nat)->Shared->Prop),Q none s->wpAny (model prog w) A (setNext a slot i ep) Q E s)
  (q:∀ h',(∀ b o,b ≠ I->s.heap.get? b=some o->h'.get? b=some o)->Q none { s with heap:=h' }):wpAny (model prog w) A (pyNext (.ref I)) Q E s:=by
 obtain⟨oI,ho,hc,hd⟩:=id hit
 unfold pyNext
 refine wpAny_bind (wpAny_attempt (wpAny_callSpecial?_slot (name:=Str.ofString "__next__") hit.type slot_next (wpAny_call_entry slot_next hit.type entry_next ?_ (args_next _))))
 unfold Builtin.«set_iterator.__next__»
 refine wpAny_bind (wpAny_pure ?_)
 refine wpAny_bind (wpAny_fieldsOf ho hd ?_)
 dsimp only
 refine wpAny_bind (wpAny_setEntries_of S.at_ S.data S.fits ?_)
 rw [if_neg (by simp)]
 simp only [Int.toNat_natCast]
 refine wpAny_bind (hn _ _ _ ?_)
 dsimp only
 refine wpAny_bind (wpAny_setField ho hd (by simp) ?_)
 refine wpAny_mono (hZ (I:=I) (s0:=s) (E:=E) (Q:=Q) hh (fun b o hb e=>(Heap.get?_update_other _ _ (Ne.symm hb)).trans e) fun h' k=>q h' k) (fun _ _ z=>z.elim) fun e s' z=>z
theorem qv {T:Addr} {i k:Nat} {oT:Obj} {its:Array Value} {c:Nat} {x:Int × Value} {Q:Option Value->Shared->Prop} (hit:cg s.heap I (.ref T) i a es.size ep) (S:bB knd s.heap a ks o es ep t)
  (hT:s.heap.get? T=some oT) (dT:oT.data=.seq its c) (hk:its[i]? = some (.int k 0)) (hx:es[k]? = some x)
  (q:∀ h',cg h' I (.ref T) (i+1) a es.size ep->Heap.SameBut I s.heap h'->Q (some x.2) { s with heap:=h' }):wpAny (model prog w) A (pyNext (.ref I)) Q E s:=by
 obtain⟨oI,ho,hc,hd⟩:=id hit
 unfold pyNext
 refine wpAny_bind (wpAny_attempt (wpAny_callSpecial?_slot (name:=Str.ofString "__next__") hit.type slot_next (wpAny_call_entry slot_next hit.type entry_next ?_ (args_next _))))
 unfold Builtin.«set_iterator.__next__»
 refine wpAny_bind (wpAny_pure ?_)
 refine wpAny_bind (wpAny_fieldsOf ho hd ?_)
 dsimp only
 refine wpAny_bind (wpAny_setEntries_of S.at_ S.data S.fits ?_)
 rw [if_neg (by simp)]
 refine wpAny_bind (wpAny_seqItems hT dT ?_)
 dsimp only
 simp only [Int.toNat_natCast]
 rw [hk]
 dsimp only
 simp only [Int.toNat_natCast]
 refine wpAny_bind (tY S hx ?_)
 refine wpAny_bind (wpAny_setField ho hd (by simp) ?_)
 refine wpAny_pure ⟨_,rfl,wpAny_pure (q _ ⟨_,Heap.get?_update_self _ ho (Obj.isFreed_of_fields (Obj.data_mapFields hd _)),?_,?_⟩ (Heap.SameBut.update ..))⟩
 ·exact (Obj.cls_mapFields ..).trans hc
 ·rw [Obj.data_mapFields hd];simp [rawInt]
theorem rQ {T:Addr} {i:Nat} {oT:Obj} {its:Array Value} {c:Nat} {Q:Option Value->Shared->Prop} (hh:A.handled=none) (hit:cg s.heap I (.ref T) i a es.size ep) (S:bB knd s.heap a ks o es ep t)
  (hT:s.heap.get? T=some oT) (dT:oT.data=.seq its c) (hk:its[i]? = none)
  (q:∀ h',(∀ b o,b ≠ I->s.heap.get? b=some o->h'.get? b=some o)->Q none { s with heap:=h' }):wpAny (model prog w) A (pyNext (.ref I)) Q E s:=by
 obtain⟨oI,ho,hc,hd⟩:=id hit
 unfold pyNext
 refine wpAny_bind (wpAny_attempt (wpAny_callSpecial?_slot (name:=Str.ofString "__next__") hit.type slot_next (wpAny_call_entry slot_next hit.type entry_next ?_ (args_next _))))
 unfold Builtin.«set_iterator.__next__»
 refine wpAny_bind (wpAny_pure ?_)
 refine wpAny_bind (wpAny_fieldsOf ho hd ?_)
 dsimp only
 refine wpAny_bind (wpAny_setEntries_of S.at_ S.data S.fits ?_)
 rw [if_neg (by simp)]
 refine wpAny_bind (wpAny_seqItems hT dT ?_)
 dsimp only
 simp only [Int.toNat_natCast]
 rw [hk]
 dsimp only
 refine wpAny_bind (wpAny_setField ho hd (by simp) ?_)
 have d1:(Obj.mapFields (·.setIfInBounds 0 (rawInt 0)) oI).data=.fields #[.int 0 0,.int i 0,.ref a,.int es.size 0,.int ep 0]:=by rw [Obj.data_mapFields hd];simp [rawInt]
 have g1:=Heap.get?_update_self (Obj.mapFields (·.setIfInBounds 0 (rawInt 0))) ho (Obj.isFreed_of_fields (Obj.data_mapFields hd _))
 refine wpAny_bind (wpAny_setField g1 d1 (by simp) ?_)
 refine wpAny_mono (hZ (I:=I) (s0:=s) (E:=E) (Q:=Q) hh (fun b o hb e=>(Heap.get?_update_other _ _ (Ne.symm hb)).trans ((Heap.get?_update_other _ _ (Ne.symm hb)).trans e)) fun h' k=>q h' k) (fun _ _ z=>z.elim) fun e s' z=>z
theorem i1:Slot "set_iterator" "__iter__" "set_iterator.__iter__" :=
  Slot.of (owner := "set_iterator") (n := "__iter__")
    (by rw [typeLookup_type,builtinLookup_eq_fast]
        kernel_rfl)
    (by decide +kernel)
    (by decide +kernel)
    (by decide +kernel)
    (by first
      | exact .inl (by decide +kernel)
      | exact .inr (by decide +kernel))
    (by rw [isSubtype_type]
        kernel_rfl)
theorem lN:entryFor table "set_iterator.__iter__" = some Builtin.«dict_keyiterator.__iter__» :=
 entryFor_alias (id' := "dict_keyiterator.__iter__")
  (by kernel_rfl) rfl
  (by decide +kernel)
  (by kernel_rfl)
theorem nN (v:Value):argsOk "set_iterator.__iter__" ⟨[v],[]⟩:=by
 unfold argsOk
 rw [signature?_of (id := "set_iterator.__iter__") (n:=['_','_','r','e','t','i','_','_']) (o:=['r','o','t','a','r','e','t','i','_','t','e','s'])
  (by kernel_rfl) jO]
 kernel_rfl
theorem gg {first:Value} {i:Nat} {Q:Value->Shared->Prop} {n:Nat} (hit:cg s.heap I first i a n ep) (q:Q (.ref I) s):wpAny (model prog w) A (pyIter (.ref I)) Q E s:=by
 refine wpAny_pyIter_slot hit.type i1 (wpAny_call_entry i1 hit.type lN ?_ (nN _))
 show wpAny _ _ (ret (.ref I)) _ _ s
 exact wpAny_pure ⟨_,rfl, "set_iterator",_,hit.type,slot_next.lookup,q⟩
theorem tZ (hh:A.handled=none) (hI:a ≠ I) (hb:w.params.followText "set-order" = true) (nd:True) :
  Walks prog w A I [I,a] [I] es.size (fun i v=>∃ e,(pickOrder (w.params.setOrder a ep) es)[i]? = some e/\e.2=v) (fun i h=>cg h I (.int 0 0) i a es.size ep/\bB knd h a ks o es ep t) where
 sub:=fun b hb=>by simp at hb;simp [hb]
 frame:=fun _ _ _ st k=>⟨st.1.keep fun o e=>k I (by simp) o e,st.2.keep fun o e=>k a (by simp) o e⟩
 item:=fun i s Q E hi st q=>by
  have z:(pickOrder (w.params.setOrder a ep) es).size=es.size:=by have:=(dz (w.params.setOrder a ep) es).length_eq;simpa using this
  have g:(pickOrder (w.params.setOrder a ep) es)[i]? = some ((pickOrder (w.params.setOrder a ep) es)[i]'(by omega)):=by simp
  refine kU (slot:=0) (nx:=0) st.1 st.2 (fun A E Q h=>o1 st.2 hb (by rw [g];exact h)) fun h' hit' sb=>?_
  exact q _ h' s.toks ⟨_,g,rfl⟩ ⟨hit',st.2.keep fun o e=>sb.extBut a o hI e⟩ fun b o hb e=>sb.extBut b o (fun z=>hb (by simp [z])) e
 done:=fun s Q E st q=>by
  have z:(pickOrder (w.params.setOrder a ep) es).size=es.size:=by have:=(dz (w.params.setOrder a ep) es).length_eq;simpa using this
  refine mR (slot:=0) hh st.1 st.2 (fun A E Q h=>o1 st.2 hb (by rw [Array.getElem?_eq_none (by omega)];exact h)) fun h' k=>?_
  exact q h' s.toks fun b o hb e=>k b o (fun z=>hb (by simp [z])) e
 self:=fun _ _ _ _ st q=>gg st.1 q
theorem iy {α : Type} {es:Array α}:∀ {ys:List Nat},(∀ k ∈ ys,k < es.size)->∀ i:Nat,(ys.filterMap fun k=>es[k]?)[i]? = (ys[i]?).bind fun k=>es[k]?
 | [],_,i=>by simp
 | y :: ys,h,i=>by
  have hy:es[y]? = some (es[y]'(h y (List.mem_cons_self ..))):=by simp
  rw [List.filterMap_cons,hy]
  cases i with
  | zero=>simp
  | succ i =>
   have:=iy (ys:=ys) (fun k hk=>h k (List.mem_cons_of_mem _ hk)) i
   simpa using this
def i2 (t:SetTable):Nat->Nat
 | 0=>0
 | i+1=>t.place.getD i 0+1
theorem i3 {t:SetTable} (up:Up t.place) {i:Nat} (h:i<=t.place.size):SetTable.below t.place (i2 t i)=i:=by
 cases i with
 | zero=>exact nL up
 | succ i =>
  have hi:i < t.place.size:=by omega
  have e:t.place[i]? = some (t.place.getD i 0):=by simp [Array.getD,hi]
  exact nK up e
theorem t9 (hh:A.handled=none) (hI:a ≠ I) (hb:w.params.followText "set-order" = false) (hd:t.plain=true\/es.size<=1) (hf:t.fits es.size=true) (hr:Rp t) :
  Walks prog w A I [I,a] [I] es.size (fun i v=>∃ e,es[i]? = some e/\e.2=v) (fun i h=>cg h I (.int (i2 t i) 0) i a es.size ep/\bB knd h a ks o es ep t) where
 sub:=fun b hb=>by simp at hb;simp [hb]
 frame:=fun _ _ _ st k=>⟨st.1.keep fun o e=>k I (by simp) o e,st.2.keep fun o e=>k a (by simp) o e⟩
 item:=fun i s Q E hi st q=>by
  have z:t.place.size=es.size:=by simp only [SetTable.fits,Bool.and_eq_true,beq_iff_eq] at hf;exact hf.1
  have up:Up t.place:=by
   rcases hd with c | c
   ·exact hr c
   ·exact Up.cu (by omega)
  have g:es[i]? = some es[i]:=by simp [hi]
  have gp:t.place[i]? = some (t.place.getD i 0):=by simp [Array.getD,z,hi]
  refine kU (slot:=i2 t i) (nx:=i2 t (i+1)) (x:=es[i].2) st.1 st.2 (fun A E Q h=>o2 st.2 hb hd (i3 up (by omega)) (by rw [g,gp];exact h)) fun h' hit' sb=>?_
  exact q _ h' s.toks ⟨_,g,rfl⟩ ⟨hit',st.2.keep fun o e=>sb.extBut a o hI e⟩ fun b o hb e=>sb.extBut b o (fun z=>hb (by simp [z])) e
 done:=fun s Q E st q=>by
  have z:t.place.size=es.size:=by simp only [SetTable.fits,Bool.and_eq_true,beq_iff_eq] at hf;exact hf.1
  have up:Up t.place:=by
   rcases hd with c | c
   ·exact hr c
   ·exact Up.cu (by omega)
  refine mR (slot:=i2 t es.size) hh st.1 st.2 (fun A E Q h=>o2 st.2 hb hd (i3 up (by omega)) (by rw [Array.getElem?_eq_none (Nat.le_refl _)];exact h)) fun h' k=>?_
  exact q h' s.toks fun b o hb e=>k b o (fun z=>hb (by simp [z])) e
 self:=fun _ _ _ _ st q=>gg st.1 q
theorem ua {T:Addr} {oT:Obj} {ys:List Nat} (hh:A.handled=none) (hI:a ≠ I) (hT:T ≠ I) (dT:oT.data=.seq (ys.map fun (i:Nat)=>rawInt i).toArray 0) (hp:ys.Perm (List.range es.size)) :
  Walks prog w A I [I,a,T] [I] es.size (fun i v=>∃ e,((ys.filterMap fun k=>es[k]?))[i]? = some e/\e.2=v) (fun i h=>cg h I (.ref T) i a es.size ep/\bB knd h a ks o es ep t/\h.get? T=some oT) where
 sub:=fun b hb=>by simp at hb;simp [hb]
 frame:=fun _ _ _ st k=>⟨st.1.keep fun o e=>k I (by simp) o e,st.2.1.keep fun o e=>k a (by simp) o e,k T (by simp) _ st.2.2⟩
 item:=fun i s Q E hi st q=>by
  have hl:ys.length=es.size:=by rw [hp.length_eq,List.length_range]
  have hin:∀ k ∈ ys,k < es.size:=fun k hk=>List.mem_range.mp (hp.mem_iff.mp hk)
  have h1:ys[i]? = some (ys[i]'(by omega)):=by simp
  have hk:ys[i]'(by omega) < es.size:=hin _ (List.getElem_mem _)
  generalize ys[i]'(by omega)=k at h1 hk
  have hx:es[k]? = some es[k]:=by simp [hk]
  have hv:(ys.filterMap fun k=>es[k]?)[i]? = some es[k]:=by
   rw [iy hin,h1]
   exact hx
  refine qv (k:=k) (x:=es[k]) st.1 st.2.1 st.2.2 dT (by simp [h1,rawInt]) hx fun h' hit' sb=>?_
  exact q _ h' s.toks ⟨_,hv,rfl⟩ ⟨hit',st.2.1.keep fun o e=>sb.extBut a o hI e,sb.extBut T _ hT st.2.2⟩ fun b o hb e=>sb.extBut b o (fun z=>hb (by simp [z])) e
 done:=fun s Q E st q=>by
  have hl:ys.length=es.size:=by rw [hp.length_eq,List.length_range]
  refine rQ hh st.1 st.2.1 st.2.2 dT (by simp [hl]) fun h' k=>?_
  exact q h' s.toks fun b o hb e=>k b o (fun z=>hb (by simp [z])) e
 self:=fun _ _ _ _ st q=>gg st.1 q
theorem gh {b x y:Addr} (h:b ∈ [x,y]):b=x\/b=y:=by simpa using h
theorem qw {b x y z:Addr} (h:b ∈ [x,y,z]):b=x\/b=y\/b=z:=by simpa using h
theorem nO:entryFor table "set.__iter__" = some Builtin.«frozenset.__iter__» :=
 entryFor_alias (id' := "frozenset.__iter__")
  (by kernel_rfl) rfl
  (by decide +kernel)
  (by kernel_rfl)
theorem bB.typeIs (S:bB knd s.heap a ks o es ep t):s.TypeIs (.ref a) "set" := ⟨o,S.at_,S.ex.1⟩
theorem lO {Q:Bool->Shared->Prop} (S:bB knd s.heap a ks o es ep t) (q:Q (!(w.params.followText "set-order") && (!t.plain && decide (es.size > 1))) s):wpAny (model prog w) A (setDrawn a) Q E s:=by
 unfold setDrawn
 refine wpAny_bind (wpAny_setState_of S.at_ S.data S.fits ?_)
 dsimp only
 exact wpAny_bind (gO (wpAny_pure q))
def Comes (es:Array (Int × Value)) (P:Nat->Value->Prop):Prop:=∃ l:List (Int × Value),l.Perm es.toList/\P=fun i v=>∃ e,l[i]? = some e/\e.2=v
theorem qx {Q:Value->Shared->Prop} (hh:A.handled=none) (S:bB knd s.heap a ks o es ep t)
  (q:∀ (I:Addr) (h':Heap) (d:_) (fp:List Addr) (P:Nat->Value->Prop) (St:Nat->Heap->Prop),(∀ b o,s.heap.get? b=some o->h'.get? b=some o)->s.heap.objs.size<=I->(∀ b ∈ fp,b < h'.objs.size)->(∀ b,h'.objs.size<=b->b ∉ fp) ->
   (∀ b ∈ fp,b=a\/s.heap.objs.size<=b)->Comes es P->(∀ A:Around,A.handled=none->Walks prog w A I fp [I] es.size P St)->St 0 h'->Q (.ref I) { s with heap:=h',drawn:=d }) :
  wpAny (model prog w) A (pyIter (.ref a)) Q E s:=by
 have la:a < s.heap.objs.size:=Heap.lt_size S.at_
 refine wpAny_pyIter_slot S.typeIs PySem.F.slot_set_iter (wpAny_call_entry PySem.F.slot_set_iter S.typeIs nO ?_ (PySem.F.args_set_iter_1 _))
 unfold Builtin.«frozenset.__iter__»
 refine wpAny_bind ?_
 unfold Builtin.Frozenset.slot0
 refine wpAny_bind (wpAny_pure ?_)
 refine wpAny_pure ?_
 refine wpAny_bind ?_
 unfold Builtin.Frozenset.sizeOf
 refine wpAny_bind (wpAny_setEntries_of S.at_ S.data S.fits (wpAny_pure ?_))
 refine wpAny_bind (lO S ?_)
 cases hb:w.params.followText "set-order" with
 | true =>
  rw [Bool.not_true,Bool.false_and,if_neg Bool.false_ne_true]
  refine wpAny_bind (wpAny_pure ?_)
  refine wpAny_bind (wpAny_setEpoch_of S.at_ S.data S.fits ?_)
  refine wpAny_bind ?_
  simp only [newFields]
  refine wpAny_newObj_type (wpAny_pure ⟨_,rfl, "set_iterator",_,⟨_,Heap.get?_push_size _ rfl,rfl⟩,slot_next.lookup,?_⟩) (by size_fits)
  refine q _ _ s.drawn [s.heap.objs.size,a] _ _ (fun b o e=>Heap.get?_push_of_some _ e) (Nat.le_refl _) (fun b hb=>?_) (fun b hb hm=>?_) (fun b hb=>?_) ⟨_,dz (w.params.setOrder a ep) es,?_⟩ (fun A hh=>tZ (knd:=knd) (ks:=ks) (o:=o) (t:=t) hh (Nat.ne_of_lt la) hb trivial) ⟨⟨_,Heap.get?_push_size _ rfl,rfl,rfl⟩,S.keep fun o e=>Heap.get?_push_of_some _ e⟩
  ·rw [Heap.size_push]
   rcases gh hb with e | e
   ·rw [e];exact Nat.lt_succ_self _
   ·rw [e];exact Nat.lt_succ_of_lt la
  ·rw [Heap.size_push] at hb
   rcases gh hm with e | e
   ·rw [e] at hb;exact Nat.not_succ_le_self _ hb
   ·rw [e] at hb;exact Nat.lt_irrefl _ (Nat.lt_of_lt_of_le la (Nat.le_of_succ_le hb))
  ·rcases gh hb with e | e
   ·exact .inr (by rw [e];exact Nat.le_refl _)
   ·exact .inl e
  ·funext i v;simp
 | false =>
  rw [Bool.not_false,Bool.true_and]
  by_cases hd:(!t.plain && decide (es.size > 1))=true
  ·rw [hd,if_pos rfl]
   refine wpAny_bind (uE es.size (List.range es.size) s (by simp) fun ys d hp=>?_)
   have hz:(ys.map fun (i:Nat)=>rawInt i).length<=sizeLine:=by rw [List.length_map,hp.length_eq,List.length_range];exact fits_of_scanBound S.cu
   refine wpAny_bind (wpAny_newTuple ?_ hz)
   have S1:bB knd (s.heap.push { cls:=.type "tuple",data:=.seq (ys.map fun (i:Nat)=>rawInt i).toArray }) a ks o es ep t:=S.keep fun o e=>Heap.get?_push_of_some _ e
   refine wpAny_bind (wpAny_setEpoch_of S1.at_ S1.data S1.fits ?_)
   refine wpAny_bind ?_
   simp only [newFields]
   refine wpAny_newObj_type (wpAny_pure ⟨_,rfl, "set_iterator",_,⟨_,Heap.get?_push_size _ rfl,rfl⟩,slot_next.lookup,?_⟩) (by size_fits)
   refine q _ _ d [(s.heap.push { cls:=.type "tuple",data:=.seq (ys.map fun (i:Nat)=>rawInt i).toArray }).objs.size,a,s.heap.objs.size] _ _ (fun b o e=>Heap.get?_push_of_some _ (Heap.get?_push_of_some _ e)) (by rw [Heap.size_push];exact Nat.le_succ _) (fun b hb=>?_) (fun b hb hm=>?_) (fun b hb=>?_) ⟨ys.filterMap fun k=>es[k]?,?_,rfl⟩
    (fun A hh=>ua (knd:=knd) (ks:=ks) (o:=o) (t:=t) (oT:={ cls:=.type "tuple",data:=.seq (ys.map fun (i:Nat)=>rawInt i).toArray }) hh (by rw [Heap.size_push];exact Nat.ne_of_lt (Nat.lt_succ_of_lt la)) (by rw [Heap.size_push];exact Nat.ne_of_lt (Nat.lt_succ_self _)) rfl hp) ⟨⟨_,Heap.get?_push_size _ rfl,rfl,rfl⟩,S1.keep fun o e=>Heap.get?_push_of_some _ e,Heap.get?_push_of_some _ (Heap.get?_push_size _ rfl)⟩
   ·rw [Heap.size_push,Heap.size_push]
    rcases qw hb with e | e | e
    ·rw [e,Heap.size_push];exact Nat.lt_succ_self _
    ·rw [e];exact Nat.lt_succ_of_lt (Nat.lt_succ_of_lt la)
    ·rw [e];exact Nat.lt_succ_of_lt (Nat.lt_succ_self _)
   ·rw [Heap.size_push,Heap.size_push] at hb
    rcases qw hm with e | e | e
    ·rw [e,Heap.size_push] at hb;exact Nat.not_succ_le_self _ hb
    ·rw [e] at hb;exact Nat.lt_irrefl _ (Nat.lt_of_lt_of_le la (Nat.le_of_succ_le (Nat.le_of_succ_le hb)))
    ·rw [e] at hb;exact Nat.not_succ_le_self _ (Nat.le_of_succ_le hb)
   ·rcases qw hb with e | e | e
    ·exact .inr (by rw [e,Heap.size_push];exact Nat.le_succ _)
    ·exact .inl e
    ·exact .inr (by rw [e];exact Nat.le_refl _)
   ·refine (hp.filterMap _).trans ?_
    have:((List.range es.size).filterMap fun k=>es[k]?)=es.toList:=by
     refine List.ext_getElem? fun i=>?_
     rw [iy (fun k hk=>List.mem_range.mp hk)]
     by_cases hi:i < es.size
     ·rw [List.getElem?_range hi];simp
     ·rw [List.getElem?_eq_none (by simp;omega),List.getElem?_eq_none (by simp;omega)];rfl
    rw [this]
  ·rw [if_neg hd]
   refine wpAny_bind (wpAny_pure ?_)
   refine wpAny_bind (wpAny_setEpoch_of S.at_ S.data S.fits ?_)
   refine wpAny_bind ?_
   simp only [newFields]
   refine wpAny_newObj_type (wpAny_pure ⟨_,rfl, "set_iterator",_,⟨_,Heap.get?_push_size _ rfl,rfl⟩,slot_next.lookup,?_⟩) (by size_fits)
   have hd':t.plain=true\/es.size<=1:=by
    cases hp:t.plain with
    | true=>exact .inl rfl
    | false=>right;rw [hp] at hd;simp at hd;exact hd
   refine q _ _ s.drawn [s.heap.objs.size,a] _ _ (fun b o e=>Heap.get?_push_of_some _ e) (Nat.le_refl _) (fun b hb=>?_) (fun b hb hm=>?_) (fun b hb=>?_) ⟨es.toList,.refl _,?_⟩ (fun A hh=>t9 (knd:=knd) (ks:=ks) (o:=o) (t:=t) hh (Nat.ne_of_lt la) hb hd' S.fits S.up) ⟨⟨_,Heap.get?_push_size _ rfl,rfl,rfl⟩,S.keep fun o e=>Heap.get?_push_of_some _ e⟩
   ·rw [Heap.size_push]
    rcases gh hb with e | e
    ·rw [e];exact Nat.lt_succ_self _
    ·rw [e];exact Nat.lt_succ_of_lt la
   ·rw [Heap.size_push] at hb
    rcases gh hm with e | e
    ·rw [e] at hb;exact Nat.not_succ_le_self _ hb
    ·rw [e] at hb;exact Nat.lt_irrefl _ (Nat.lt_of_lt_of_le la (Nat.le_of_succ_le hb))
   ·rcases gh hb with e | e
    ·exact .inr (by rw [e];exact Nat.le_refl _)
    ·exact .inl e
   ·funext i v;simp
theorem qy {Q:Bool->Shared->Prop} (hT:s.TypeIs (.ref a) "set") (q:Q false s):wpAny (model prog w) A (Builtin.List.listLengthHint (.ref a)) Q E s:=by
 unfold Builtin.List.listLengthHint
 refine wpAny_bind (wpAny_specialOf hT PySem.F.slot_set_len.lookup ?_)
 generalize hid:("set.__len__" : String)=id0
 wp_delta
 rw [show splitId id0=some ("set", "__len__") from by subst hid;decide +kernel]
 subst hid
 refine wpAny_bind (wpAny_isInstance (T := "set") (b:=true) hT sub_set_self ?_)
 refine wpAny_ite_split (fun hab=>absurd hab (by decide)) (fun _=>?_)
 refine wpAny_ite_split (fun _=>?_) (fun hab=>absurd (by decide +kernel) hab)
 refine wpAny_bind (wpAny_typeOf hT ?_)
 exact wpAny_pure q
end
open PySem.Calls PySem.W
section
variable {prog:Program} {w:World} {K:Type} [DecidableEq K] {knd:KeyKind prog w K}
variable {A:Around} {E:Value->Shared->Prop} {s:Shared} {a:Addr} {ks:List K} {o:Obj} {es:Array (Int × Value)} {ep:Nat} {t:SetTable}
theorem lQ {P:Nat->Value->Prop} {got:Array Value} (hc:Comes es P) (hi:ItemsOf P got es.size):∃ l:List (Int × Value),l.Perm es.toList/\got.toList=l.map (·.2):=by
 obtain⟨l,hp,rfl⟩:=hc
 refine⟨l,hp,?_⟩
 have hl:l.length=es.size:=by rw [hp.length_eq,Array.length_toList]
 refine List.ext_getElem? fun i=>?_
 rw [List.getElem?_map]
 by_cases h:i < es.size
 ·have e1:got.toList[i]? = some (got[i]'(by rw [hi.1];exact h)):=by simp [hi.1,h]
  obtain⟨e,he,hv⟩:=hi.2 i _ (by rw [<-Array.getElem?_toList];exact e1)
  rw [e1,he,<-hv];rfl
 ·rw [List.getElem?_eq_none (by rw [Array.length_toList,hi.1];omega),List.getElem?_eq_none (by omega)];rfl
theorem nP {R:Result->Shared->Prop} (hh:A.handled=none) (S:bB knd s.heap a ks o es ep t) (L:Addr) (hLa:L ≠ a) (hL:s.heap.get? L=some { cls:=.type "list",data:=.seq #[] 0 }) (res:Value)
  (fin:∀ (g:Heap) (tk:Nat) (d:_) (got:Array Value) (c:Nat),(∀ b o,b ≠ L->s.heap.get? b=some o->g.get? b=some o)->g.get? L=some { cls:=.type "list",dict:=none,data:=.seq got c,slots:=#[] } ->
   (∃ l:List (Int × Value),l.Perm es.toList/\got.toList=l.map (·.2))->R (.ok (.ret res)) { s with heap:=g,toks:=tk,drawn:=d }) :
  wpAny (model prog w) A.in1 (Builtin.List.listExtendWith (.ref L) (.ref a) res)
   (fun fin s'=>match fin with | .done f=>R (.ok f) s' | .again c'=>c'.quiet=true/\codeAny (model prog w) A c' R s') (fun e s'=>R (.error e) s') s:=by
 have hz:es.size<=sizeLine:=fits_of_scanBound S.cu
 unfold Builtin.List.listExtendWith
 refine wpAny_bind (wpAny_typeOf S.typeIs ?_)
 have h1:Builtin.List.listSameRef (.ref L) (.ref a)=false:=by simp [Builtin.List.listSameRef,hLa]
 rw [h1]
 have h2:(Value.type "set" == Value.type "list")=false:=by decide
 have h3:(Value.type "set" == Value.type "tuple")=false:=by decide
 rw [h2,h3]
 rw [if_neg (by decide)]
 refine wpAny_bind (qx (A:=A.in1) hh S fun I h1 d fp P St keep hI hfp hnew hof hc W st=>?_)
 have hLlt:L < s.heap.objs.size:=Heap.lt_size hL
 have hLf:L ∉ fp:=fun hm=>by
  rcases hof L hm with e | e
  ·exact hLa e
  ·exact Nat.lt_irrefl _ (Nat.lt_of_lt_of_le hLlt e)
 have hLI:L ≠ I:=fun e=>Nat.lt_irrefl _ (Nat.lt_of_lt_of_le hLlt (e ▸ hI))
 have Wk:=W A.in1 hh
 have loop:∀ (g:Heap) (c tk:Nat),St 0 g->(∀ b o,b ≠ L->s.heap.get? b=some o->g.get? b=some o)->g.get? L=some { cls:=.type "list",data:=.seq #[] c } ->
   codeAny (model prog w) A (.builtin "list.extend.loop" ⟨[.ref L,.ref I,res],[]⟩) R { s with heap:=g,toks:=tk,drawn:=d }:=by
  intro g c tk st' kp gL
  refine codeAny_extend_loopS Wk.toS hz L hLf res es.size 0 _ #[] c rfl (Nat.zero_le _) st' gL (ItemsOf.nil _) fun s' got c' mv gL' its=>?_
  have e:=Moved.eq_with mv
  rw [e]
  refine fin s'.heap s'.toks d got c' (fun b o hb e=>mv.heap b o (fun hm=>?_) (kp b o hb e)) gL' (lQ hc its)
  rcases List.mem_cons.mp hm with e' | hm
  ·exact hb e'
  ·rw [List.mem_singleton] at hm
   subst hm
   exact Nat.lt_irrefl _ (Nat.lt_of_lt_of_le (Heap.lt_size e) hI)
 have gL1:=keep _ _ hL
 refine wpAny_bind (wpAny_holding (qy ⟨o,keep _ _ S.at_,S.ex.1⟩ ?_))
 refine wpAny_ite_split (fun _=>?_) (fun _=>wpAny_pure ⟨plainId_quiet PySem.F.plain_extend_loop _,loop _ 0 _ st (fun b o _ e=>keep b o e) gL1⟩)
 refine wpAny_bind (wpAny_rule ?_)
 refine wpAny_bind ?_
 show wpAny _ _ (updateSeq L (·.push .none) >>= fun _=>updateSeq L (·.pop)) _ _ _
 refine wpAny_bind (wpAny_updateSeq gL1 rfl ?_)
 have gL2:=Heap.get?_update_self (Obj.mapSeq (·.push Value.none)) gL1 rfl
 refine wpAny_updateSeq (hz:=by seq_fits) gL2 rfl ?_
 have gL3:=Heap.get?_update_self (Obj.mapSeq (·.pop)) gL2 rfl
 refine wpAny_pure ⟨plainId_quiet PySem.F.plain_extend_loop _,loop _ _ _ ?_ (fun b o hb e=>?_) gL3⟩
 ·refine Wk.frame 0 _ _ st fun b hb o e=>?_
  have hbL:b ≠ L:=fun h=>hLf (h ▸ hb)
  exact (Heap.get?_update_other _ _ (Ne.symm hbL)).trans ((Heap.get?_update_other _ _ (Ne.symm hbL)).trans e)
 ·exact (Heap.get?_update_other _ _ (Ne.symm hb)).trans ((Heap.get?_update_other _ _ (Ne.symm hb)).trans (keep b o e))
theorem i4 {G:List Value->Shared->Prop} (calm:A.handled=none) (S:bB knd s.heap a ks o es ep t)
  (fin:∀ (g:Heap) (tk:Nat) (d:_) (got:Array Value),(∀ b o,s.heap.get? b=some o->g.get? b=some o)->(∃ l:List (Int × Value),l.Perm es.toList/\got.toList=l.map (·.2))->s.heap.objs.size<=g.objs.size->G got.toList { s with heap:=g,toks:=tk,drawn:=d }) :
  wpAny (model prog w) A (collect (.ref a)) G E s:=by
 have la:a < s.heap.objs.size:=Heap.lt_size S.at_
 unfold collect
 refine wpAny_bind (wpAny_runValue (codeAny_builtin entry_proto_collect' ?_))
 rw [Around.under_plainId PySem.F.plain_proto_collect _]
 show wpAny _ A.in1 (newList [] >>= fun z=>again (.builtin "list.__iadd__" ⟨[z,.ref a],[]⟩)) _ _ s
 refine wpAny_bind (wpAny_newObj_type (wpAny_pure ⟨plainId_quiet PySem.F.plain_list_iadd _,codeAny_builtin entry_list_iadd' ?_⟩))
 rw [Around.under_plainId PySem.F.plain_list_iadd _]
 show wpAny _ A.in1 (Builtin.List.listExtendWith (.ref s.heap.objs.size) (.ref a) (.ref s.heap.objs.size)) _ _ _
 have made:(s.heap.push { cls:=.type "list",data:=.seq ([]:List Value).toArray }).get? s.heap.objs.size=some { cls:=.type "list",data:=.seq #[] 0 }:=Heap.get?_push_size _ rfl
 have run:=nP (A:=A) (s:={ s with heap:=s.heap.push { cls:=.type "list",data:=.seq ([]:List Value).toArray } })
  (R:=fun (z:Result) (t:Shared)=>∃ (g:Heap) (tk:Nat) (d:_) (got:Array Value) (c:Nat),z=.ok (.ret (.ref s.heap.objs.size))/\t = { s with heap:=g,toks:=tk,drawn:=d } /\
   (∀ b o,s.heap.get? b=some o->g.get? b=some o)/\g.get? s.heap.objs.size=some { cls:=.type "list",dict:=none,data:=.seq got c,slots:=#[] }/\∃ l:List (Int × Value),l.Perm es.toList/\got.toList=l.map (·.2))
  calm (S.keep fun o e=>Heap.get?_push_of_some _ e) s.heap.objs.size (Nat.ne_of_gt la) made (.ref s.heap.objs.size)
  (fun g tk d got c kept at_ its=>⟨g,tk,d,got,c,rfl,rfl,fun b o e=>kept b o (Nat.ne_of_lt (Heap.lt_size e)) (Heap.get?_push_of_some _ e),at_,its⟩)
 refine wpAny_mono run (fun z t x=>?_) fun z t ⟨_,_,_,_,_,bad,_⟩=>by cases bad
 cases z with
 | done f =>
  obtain⟨g,tk,d,got,c,e,rfl,kept,at_,its⟩:=x
  cases e
  show wpAny _ A (load s.heap.objs.size >>= _) _ _ _
  exact wpAny_bind (wpAny_load at_ (wpAny_pure (fin g tk d got kept its (Nat.le_of_lt (Heap.lt_size at_)))))
 | again more =>
  refine⟨x.1,codeAny_mono x.2 fun z' t' ⟨g,tk,d,got,c,e1,e2,kept,at_,its⟩=>?_⟩
  subst e1 e2
  show wpAny _ A (load s.heap.objs.size >>= _) _ _ _
  exact wpAny_bind (wpAny_load at_ (wpAny_pure (fin g tk d got kept its (Nat.le_of_lt (Heap.lt_size at_)))))
end
end LS
namespace L2
open PySem PySem.Spec PyProof.Rows LS
theorem h9 {P:Program} {w:World} {i:Int} {v:Value} (h:(ai P w).is (Sum.inl i) v=true):∃ t,v=.int i t:=by
 rcases bh (show dA (Sum.inl i) v=true from h) with ⟨j,t,e,rfl⟩ | ⟨x,t,e,rfl⟩
 ·cases e;exact⟨t,rfl⟩
 ·cases e
def i5 (m:List Key):List Str:=m.filterMap fun k=>match k with | .inr x=>some x | .inl _=>none
def i6 (m:List Key):List Int:=m.filterMap fun k=>match k with | .inl x=>some x | .inr _=>none
theorem o3 (ss:List Str):i5 (ss.map Sum.inr)=ss:=by
 induction ss with
 | nil=>rfl
 | cons x ss ih=>show x :: i5 (ss.map Sum.inr)=x :: ss;rw [ih]
theorem o4 (ss:List Int):i6 (ss.map Sum.inl)=ss:=by
 induction ss with
 | nil=>rfl
 | cons x ss ih=>show x :: i6 (ss.map Sum.inl)=x :: ss;rw [ih]
theorem qA {m:List Key} {ss:List Str} (p:m.Perm (ss.map Sum.inr)):m=(i5 m).map Sum.inr/\(i5 m).Perm ss:=by
 refine⟨?_,by have:=p.filterMap (fun k:Key=>match k with | .inr x=>some x | .inl _=>none);rw [show List.filterMap _ (ss.map Sum.inr)=ss from o3 ss] at this;exact this⟩
 have hall:∀ k ∈ m,∃ x,k=Sum.inr x:=fun k hk=>by
  obtain⟨x,_,rfl⟩:=List.mem_map.mp (p.mem_iff.mp hk)
  exact⟨x,rfl⟩
 clear p
 induction m with
 | nil=>rfl
 | cons k m ih =>
  obtain⟨x,rfl⟩:=hall k (List.mem_cons_self ..)
  have:=ih fun k hk=>hall k (List.mem_cons_of_mem _ hk)
  show Sum.inr x :: m=Sum.inr x :: (i5 m).map Sum.inr
  rw [<-this]
theorem qB {m:List Key} {ss:List Int} (p:m.Perm (ss.map Sum.inl)):m=(i6 m).map Sum.inl/\(i6 m).Perm ss:=by
 refine⟨?_,by have:=p.filterMap (fun k:Key=>match k with | .inl x=>some x | .inr _=>none);rw [show List.filterMap _ (ss.map Sum.inl)=ss from o4 ss] at this;exact this⟩
 have hall:∀ k ∈ m,∃ x,k=Sum.inl x:=fun k hk=>by
  obtain⟨x,_,rfl⟩:=List.mem_map.mp (p.mem_iff.mp hk)
  exact⟨x,rfl⟩
 clear p
 induction m with
 | nil=>rfl
 | cons k m ih =>
  obtain⟨x,rfl⟩:=hall k (List.mem_cons_self ..)
  have:=ih fun k hk=>hall k (List.mem_cons_of_mem _ hk)
  show Sum.inl x :: m=Sum.inl x :: (i6 m).map Sum.inl
  rw [<-this]
section
variable {prog:Program} {w:World} {A:Around} {E:Value->Shared->Prop} {s:Shared} {a:Addr} {ks:List Key} {o:Obj} {es:Array (Int × Value)} {ep:Nat} {t:SetTable}
theorem kW {got:List Value} (S:LS.bB (ai prog w) s.heap a ks o es ep t) (h:∃ l:List (Int × Value),l.Perm es.toList/\got=l.map (·.2)):∃ m:List Key,m.Perm ks/\Paired (fun v k=>(ai prog w).is k v=true) got m:=by
 obtain⟨l,hp,rfl⟩:=h
 obtain⟨ls,q1,q2⟩:=S.ents
 obtain⟨m,m1,m2⟩:=eR hp q2
 refine⟨m,m1.trans q1,?_⟩
 clear hp q2 m1
 induction m2 with
 | nil=>exact .nil
 | cons r _ ih=>exact .cons r.1 ih
theorem gi:∀ {got:List Value} {ss:List Str},Paired (fun v k=>(ai prog w).is k v=true) got (ss.map Sum.inr)->StrsAre got ss
 | _,[],.nil=>.nil
 | _,x :: ss,.cons r t=>by
  obtain⟨t',rfl⟩:=hV r
  exact .cons x t' (gi t)
theorem gm:∀ {got:List Value} {ss:List Int},Paired (fun v k=>(ai prog w).is k v=true) got (ss.map Sum.inl)->IntsAre got ss
 | _,[],.nil=>.nil
 | _,x :: ss,.cons r t=>by
  obtain⟨t',rfl⟩:=h9 r
  exact .cons x t' (gm t)
theorem lR {ss:List Str} {Q:Value->Shared->Prop} (hh:A.handled=none) (S:LS.bB (ai prog w) s.heap a (ss.map Sum.inr) o es ep t) (h64:ss.length < 64)
  (q:∀ (h':Heap) (tk:Nat) (d:_) (D:Addr) (out:Array Value) (ss':List Str) (e:Nat),(∀ b o,s.heap.get? b=some o->h'.get? b=some o)->s.heap.objs.size<=D->h'.get? D=some { cls:=.type "list",data:=.seq out e } ->
   StrsAre out.toList ss'->ss'.Perm ss->sortedS ss' = true->Q (.ref D) { s with heap:=h',toks:=tk,drawn:=d }) :
  wpAny (model prog w) A (call (.builtin "sorted") [.ref a]) Q E s:=by
 refine Calls.call_function_entry kind_sorted plain_sorted entry_sorted (args_sorted1 _) ?_
 unfold Builtin.«sorted»
 refine wpAny_bind (m:=checkCount "sorted" 1 1 _) (wpAny_pure ?_)
 refine wpAny_bind (i4 (A:=A.in1) hh S fun h' tk d acc hkeep hacc hsz=>?_)
 obtain⟨m,m1,m2⟩:=kW S hacc
 obtain⟨e1,p1⟩:=qA m1
 rw [e1] at m2
 have hS:=gi m2
 have hl:acc.toList.length < 64:=by rw [m2.length,List.length_map,p1.length_eq];exact h64
 refine wpAny_bind (wpAny_newList ?_ (Nat.le_trans (Nat.le_of_lt hl) (by decide)))
 have hoL:(h'.push (seqObj "list" acc.toList.toArray 0)).get? h'.objs.size=some (seqObj "list" acc.toList.toArray 0):=Heap.get?_push_size _ rfl
 refine wpAny_bind (wpAny_holding (wpAny_call_entry slot_list_sort ⟨_,hoL,rfl⟩ entry_list_sort (list_sort_treeK strKind_oneLt hoL hS.keysOf (fun v₁ v₂ rest e=>keyKind_strs (by rw [<-e];exact hS)) hl fun st' a1 a2=>⟨_,rfl,?_⟩) (args_list_sort _)))
 obtain⟨ss',b1,b2,b3⟩:=sorted_out_str hS a1 a2
 obtain⟨e,he⟩:=sortedHeap_at (out:=(arrOf st').map (·.2)) hoL
 refine wpAny_pure ⟨_,rfl,q _ tk d _ _ ss' e (fun b o ho=>?_) hsz he b1 (b2.trans p1) b3⟩
 have h1:=hkeep b o ho
 have hlt:=Heap.lt_size h1
 rw [sortedHeap_old (Nat.ne_of_lt hlt) (by rw [size_push'];exact Nat.lt_succ_of_lt hlt)]
 exact Heap.get?_push_of_some _ h1
end
def aW (P:Program) (w:World) (a:Addr) (ks:List Key):HO:=.ext fun h=>bS (ai P w) h a ks
theorem fc {P:Program} {w:World} {H:Hp} {h:Heap} {a:Addr} {ks:List Key} (S:bS (ai P w) h a ks):aU P w H h a (aW P w a ks) :=
 ⟨S,let ⟨o,_,_,_,S⟩:=S;⟨o,S.at_⟩,fun h1 h2 S k=>S.keep k⟩
section
variable {X:Cx} {pins:List (Addr × Obj)} {σ : List (Option V)} {H:Hp} {s:Shared}
theorem Inv.jo {a:Addr} {ks:List Key} (I:Inv X pins σ H s) (h:H a=some (aW X.prog X.w a ks)):bS (ai X.prog X.w) s.heap a ks:=(I.av a _ h).1
theorem Inv.mS {d:_} (I:Inv X pins σ H s):Inv X pins σ H { s with drawn:=d }:=⟨I.ok,I.os,I.bare,I.base,I.loc,I.cell,I.free,I.cI,I.pin,I.av,I.len⟩
theorem jT (hc:X.calm=true):cf X (.builtin "sorted") (fun vs H Q=>∃ (a:Addr) (ss:List Str),vs = [.ref a]/\H a=some (aW X.prog X.w a (ss.map Sum.inr))/\ss.length < 64 /\
  ∀ (l:Addr) (ss':List Str),ss'.Perm ss->sortedS ss' = true->H l=none->Q (.ref l) (upd H l (.lst (ss'.map V.str)))):=by
 intro pins s σ H xs us Q I r h
 obtain⟨a,ss,rfl,ha,h64,q⟩:=h
 obtain⟨u,rfl,ru⟩:=vals1 r
 cases (show u=Value.ref a from ru)
 obtain⟨o,es,ep,t,S⟩:=I.jo ha
 refine lR (I.ok.hd hc) S h64 fun h' tk d D out ss' e hkeep hD he hS hp hs=>?_
 have hv:Vals (ss'.map V.str) out.toList:=jl hS
 refine⟨.ref D,_,(I.mS (d:=d)).laid (t':=tk) (o:=.lst (ss'.map V.str)) hkeep hD (show aU X.prog X.w _ h' _ (.lst (ss'.map V.str)) from ⟨?_,out.toList,e,hv,by simpa using he⟩),rfl,q D ss' hp hs (I.av.fresh hD)⟩
 rw [List.length_map,hp.length_eq]
 exact Nat.le_trans (Nat.le_of_lt h64) (by decide)
end
end L2
namespace LS
open PySem PySem.Spec PyProof.Rows L2
section
variable {K:Type} [DecidableEq K]
def putIn (acc:List K) (k:K):List K:=if k ∈ acc then acc else acc ++ [k]
def aV (ms:List K):List K:=ms.foldl putIn []
theorem dJ {acc:List K} {k x:K}:x ∈ putIn acc k ↔ x ∈ acc\/x=k:=by
 unfold putIn
 split
 ·rename_i h
  exact⟨.inl,fun z=>z.elim id (fun e=>e ▸ h)⟩
 ·simp
theorem o5 (acc:List K) (k:K):(putIn acc k).length<=acc.length+1:=by unfold putIn;split <;> simp
theorem kX:∀ (ms acc:List K) (x:K),x ∈ ms.foldl putIn acc ↔ x ∈ acc\/x ∈ ms
 | [],acc,x=>by simp
 | k :: ms,acc,x=>by
  rw [List.foldl_cons,kX ms,dJ]
  simp [or_assoc]
theorem gn {ms:List K} {x:K}:x ∈ aV ms ↔ x ∈ ms:=by unfold aV;rw [kX];simp
theorem kY:∀ (ms acc:List K),(ms.foldl putIn acc).length<=acc.length+ms.length
 | [],acc=>by simp
 | k :: ms,acc=>by
  rw [List.foldl_cons]
  have:=kY ms (putIn acc k)
  have:=o5 acc k
  simp only [List.length_cons];omega
theorem mT:∀ (ms acc:List K),acc.Nodup->(ms.foldl putIn acc).Nodup
 | [],acc,h=>h
 | k :: ms,acc,h=>by
  rw [List.foldl_cons]
  refine mT ms _ ?_
  unfold putIn
  split
  ·exact h
  ·rename_i hn
   rw [List.nodup_append]
   exact⟨h,by simp,fun a ha b hb e=>hn (by rw [List.mem_singleton] at hb;rw [<-hb,<-e];exact ha)⟩
theorem ft (ms:List K):(aV ms).Nodup:=mT ms [] List.nodup_nil
end
section
variable {prog:Program} {w:World} {A:Around} {E:Value->Shared->Prop} {s:Shared}
theorem kZ {k:Key} {v:Value} (h:(ai prog w).is k v=true):v.scannable=true:=by
 rcases bh (show dA k v=true from h) with ⟨j,t,_,rfl⟩ | ⟨x,t,_,rfl⟩ <;> rfl
theorem jq {a:Addr} {ks:List Key} {k:Key} {v:Value} {Q:Bool->Shared->Prop} (hk:(ai prog w).is k v=true) (S:bS (ai prog w) s.heap a ks) (room:ks.length+1 < scanBound)
  (q:∀ h',Heap.SameBut a s.heap h'->bS (ai prog w) h' a (putIn ks k)->∀ c:Bool,Q c { s with heap:=h',toks:=s.toks+1 }):wpAny (model prog w) A (setAdd a v) Q E s:=by
 unfold setAdd
 refine wpAny_holding ?_
 refine wpAny_bind ((ai prog w).pyHash hk ?_)
 exact nM (s:={ s with toks:=s.toks+1 }) hk (kZ hk) S room fun h' b S'=>q h' b S' _
theorem qC {a:Addr} {ks:List Key} {k:Key} {v:Value} {Q:Value->Shared->Prop} (hk:(ai prog w).is k v=true) (S:bS (ai prog w) s.heap a ks) (room:ks.length+1 < scanBound)
  (q:∀ h',Heap.SameBut a s.heap h'->bS (ai prog w) h' a (putIn ks k)->Q .none { s with heap:=h',toks:=s.toks+1 }):wpAny (model prog w) A (call (.builtin "set.add") [.ref a,v]) Q E s:=by
 refine wpAny_call_entry PySem.F.slot_set_add S.setOf.typeIs PySem.F.entry_set_add ?_ (PySem.F.args_set_add_2 _ _)
 unfold Builtin.«set.add» Builtin.Frozenset.oneOther
 simp only [List.isEmpty_nil,bind_assoc]
 unfold Builtin.Frozenset.addrOf
 refine wpAny_bind (wpAny_pure ?_)
 refine wpAny_bind (wpAny_pure ?_)
 refine wpAny_bind (jq hk S room fun h' b S' _=>?_)
 exact wpAny_pure ⟨_,rfl,q h' b S'⟩
theorem o6 {I L:Addr} {fp wr:List Addr} {G:Array GenState->Array GenState->Prop} {n:Nat} {P:Nat->Value->Prop} {St:Nat->Shared->Prop} {R:Result->Shared->Prop} (W:WalksS prog w A.in1 I fp wr G n P St) (hLf:L ∉ fp)
  (ms:List Key) (hl:ms.length=n) (hm:∀ i v,P i v->∃ k,ms[i]? = some k/\(ai prog w).is k v=true) (hb:n+1 < scanBound) :
  ∀ (k i:Nat) (s:Shared),n - i=k->i<=n->St i s->bS (ai prog w) s.heap L (aV (ms.take i)) ->
   (∀ s',Moved (L :: wr) G s s'->bS (ai prog w) s'.heap L (aV ms)->R (.ok (.ret .none)) s') ->
   codeAny (model prog w) A (.builtin "set.update.loop" ⟨[.ref L,.ref I],[]⟩) R s:=by
 have hLw:L ∉ wr:=fun h=>hLf (W.sub _ h)
 intro k
 induction k with
 | zero =>
  intro i s hk hi st S q
  have e:i=n:=by omega
  subst e
  refine codeAny_builtin PyProof.Rows.F.entry_set_update_loop ?_
  rw [Around.under_plainId PyProof.Rows.F.plain_set_update_loop _]
  show wpAny _ A.in1 (pyNext (.ref I) >>= _) _ _ s
  refine wpAny_bind (W.done s _ _ st fun s' mv=>?_)
  refine wpAny_pure (q s' (mv.mono fun b hb=>List.mem_cons_of_mem _ hb) ?_)
  rw [List.take_of_length_le (by omega)] at S
  exact S.keep fun o e=>mv.heap L _ hLw e
 | succ k ih =>
  intro i s hk hi st S q
  have hlt:i < n:=by omega
  refine codeAny_builtin PyProof.Rows.F.entry_set_update_loop ?_
  rw [Around.under_plainId PyProof.Rows.F.plain_set_update_loop _]
  show wpAny _ A.in1 (pyNext (.ref I) >>= _) _ _ s
  refine wpAny_bind (W.item i s _ _ hlt st fun v s' hP st' mv=>?_)
  obtain⟨key,hkey,his⟩:=hm i v hP
  have S':bS (ai prog w) s'.heap L (aV (ms.take i)):=S.keep fun o e=>mv.heap L _ hLw e
  refine wpAny_bind (wpAny_holding (jq his S' ?_ fun h' sb S2 _=>?_))
  ·have h1:=kY (ms.take i) []
   have h2:(ms.take i).length<=i:=by rw [List.length_take];omega
   have h3:(aV (ms.take i)).length<=0+(ms.take i).length:=h1
   omega
  ·have e1:putIn (aV (ms.take i)) key=aV (ms.take (i+1)):=by
    unfold aV
    rw [List.take_add_one,hkey,List.foldl_append];rfl
   rw [e1] at S2
   refine wpAny_pure ⟨plainId_quiet PyProof.Rows.F.plain_set_update_loop _,ih (i+1) _ (by omega) hlt (W.frame _ s' _ _ st' (Nat.le_succ _) fun b hb o e=>?_) S2 fun s'' mv2 S3=>?_⟩
   ·rw [sb.2 b (fun h:b=L=>hLf (by rw [<-h];exact hb))];exact e
   ·refine q s'' (Moved.trans W.gtrans ((mv.mono fun b hb=>List.mem_cons_of_mem _ hb).then_heap (Nat.le_succ _) fun b o hb e=>?_) mv2) S3
    rw [sb.2 b (fun h:b=L=>hb (by rw [h];exact List.mem_cons_self))];exact e
end
theorem i7 {α β : Type} {F:α->β->Prop}:∀ {l:List α} {m:List β},Paired F l m->∀ {i:Nat} {x:α},l[i]? = some x->∃ y,m[i]? = some y/\F x y
 | _,_,.nil,i,x,e=>by simp at e
 | _,_,.cons r _,0,x,e=>by simp at e;subst e;exact⟨_,rfl,r⟩
 | _,_,.cons _ t,i+1,x,e=>by simpa using i7 t (i:=i) (x:=x) (by simpa using e)
def bu (w:World):Obj:={ cls:=.type "set",dict:=none,data:=.set #[] 0 (.fresh 0 0 (!(w.params.followText "set-order"))) }
section
variable {prog:Program} {w:World} {A:Around} {E:Value->Shared->Prop} {s:Shared}
theorem o7 (rest:List Value) (hc:checkBuiltinCall "set.__new__" ⟨.type "set" :: rest,[]⟩=pure ()) {Q:Value->Shared->Prop} (q:Q (.ref s.heap.objs.size) { s with heap:=s.heap.push (bu w) }) :
  codeAny (model prog w) A (.call (.builtin "set.__new__") ⟨.type "set" :: rest,[]⟩) (wants Q E) s:=by
 refine codeAny_of_tree ?_
 show wpAny _ A.in1 (checkBuiltinCall "set.__new__" ⟨.type "set" :: rest,[]⟩ >>= fun _=>again (.builtin "set.__new__" ⟨.type "set" :: rest,[]⟩)) _ _ s
 refine wpAny_bind (wpAny_of_eq hc (wpAny_pure ⟨plainId_quiet PySem.F.plain_set_new _,codeAny_builtin PySem.F.entry_set_new ?_⟩))
 rw [Around.under_plainId PySem.F.plain_set_new _]
 unfold Builtin.«set.__new__» Builtin.Frozenset.newClass
 have hsub:=sub_set_self
 obtain⟨hp,g,d,tk,os⟩:=s
 dsimp only
 wp_walk
 refine wpAny_askSetting (wpAny_pure ?_)
 dsimp only
 simp only [newObj]
 refine wpAny_bind (wpAny_alloc (wpAny_pure ?_))
 exact wpAny_pure q
theorem lg {rest:List Value} {Q:Value->Shared->Prop} (hct:checkTypeCall "set" ⟨rest,[]⟩=pure ()) (hcn:checkBuiltinCall "set.__new__" ⟨.type "set" :: rest,[]⟩=pure ())
  (hci:∀ (M:Model) (A:Around) (E:Value->Shared->Prop) (s':Shared) (Q':Unit->Shared->Prop),s'.TypeIs (.ref s.heap.objs.size) "set" -> Q' () s'->wpAny M A (checkBuiltinCall "set.__init__" ⟨.ref s.heap.objs.size :: rest,[]⟩) Q' E s')
  (init:∀ (R:Result->Shared->Prop),(∀ h' tk,(∀ b o,s.heap.get? b=some o->h'.get? b=some o)->Q (.ref s.heap.objs.size) { s with heap:=h',toks:=tk }->R (.ok (.ret .none)) { s with heap:=h',toks:=tk }) ->
   wpAny (model prog w) A.in1.in1 (Builtin.«set.__init__» ⟨.ref s.heap.objs.size :: rest,[]⟩) (fun fin s'=>match fin with | .done f=>R (.ok f) s' | .again c'=>c'.quiet=true/\codeAny (model prog w) A.in1 c' R s') (fun e s'=>R (.error e) s')
    { s with heap:=s.heap.push (bu w) }) :
  wpAny (model prog w) A (call (.type "set") rest) Q E s:=by
 obtain⟨c,tl,hmro⟩:=PySem.F.called_set.mro
 have hmade:=PySem.F.called_set.made
 have hsub:=PySem.F.called_set.sub
 refine wpAny_call (codeAny_of_tree ?_)
 show wpAny _ _ (callAny (.type "set") _) _ _ _
 refine wpAny_pure ⟨Code.quiet_builtin _ (by decide +kernel),codeAny_builtin PySem.F.entry_type_call ?_⟩
 rw [Around.under_plain (weight_type_call_type "set" rest []) rfl]
 have h1:=PySem.F.called_set.notType
 have h2:=PySem.F.called_set.canCreate
 repeat (any_goals (first | assumption | wp_step))
 refine codeAny_mono (o7 (w:=w) rest hcn (E:=E) (Q:=fun obj s₁=>obj=.ref s.heap.objs.size/\s₁ = { s with heap:=s.heap.push (bu w) }) ⟨rfl,rfl⟩) fun r s₁ hr=>?_
 cases r with
 | error e=>exact hr
 | ok fl =>
  cases fl with
  | ret obj =>
   obtain⟨rfl,rfl⟩:=hr
   have hS:(s.heap.push (bu w)).get? s.heap.objs.size=some (bu w):=Heap.get?_push_size _ rfl
   have hT:Shared.TypeIs { s with heap:=s.heap.push (bu w) } (.ref s.heap.objs.size) "set" := ⟨_,hS,rfl⟩
   have hli:=PySem.F.called_set.init.lookup
   have hbi:=PySem.F.called_set.init.bind (.ref s.heap.objs.size)
   repeat (any_goals (first | assumption | wp_step))
   refine codeAny_mono (codeAny_call_builtin (R:=wants (fun r s₂=>r=.none/\Q (.ref s.heap.objs.size) s₂) E) PySem.F.called_set.init.plain PySem.F.entry_set_init (hci _ _ _ _ _ hT (init _ fun h' tk _ q=>⟨rfl,q⟩))) fun r₂ s₂ hr₂=>?_
   cases r₂ with
   | error e=>exact hr₂
   | ok fl₂ =>
    cases fl₂ with
    | ret r =>
     obtain⟨rfl,hq⟩:=hr₂
     repeat (any_goals (first | assumption | wp_step))
    | _=>exact hr₂.elim
  | _=>exact hr.elim
theorem o8 {Q:Value->Shared->Prop} (q:∀ h',bS (ai prog w) h' s.heap.objs.size []->(∀ b o,s.heap.get? b=some o->h'.get? b=some o)->Q (.ref s.heap.objs.size) { s with heap:=h' }):wpAny (model prog w) A (call (.type "set") []) Q E s:=by
 refine lg PySem.F.typeCall_set_0 PySem.F.newCall_set_0 (fun M A E s' Q' hT q'=>check_set_init hT q') fun R fin=>?_
 have hS:(s.heap.push (bu w)).get? s.heap.objs.size=some (bu w):=Heap.get?_push_size _ rfl
 have hT:Shared.TypeIs { s with heap:=s.heap.push (bu w) } (.ref s.heap.objs.size) "set" := ⟨_,hS,rfl⟩
 unfold bu at hS hT ⊢
 unfold Builtin.«set.__init__» noKeywords
 wp_walk
 exact fin _ s.toks (fun b o e=>Heap.get?_push_of_some _ e) (q _ (gf rfl hS) fun b o e=>Heap.get?_push_of_some _ e)
theorem set_list {l:Addr} {items:Array Value} {ms:List Key} {Q:Value->Shared->Prop} (hh:A.handled=none) (hl:s.heap.IsList l items) (hm:Paired (fun v k=>(ai prog w).is k v=true) items.toList ms) (hb:items.size+1 < scanBound)
  (q:∀ h' tk,bS (ai prog w) h' s.heap.objs.size (aV ms)->(∀ b o,s.heap.get? b=some o->h'.get? b=some o)->Q (.ref s.heap.objs.size) { s with heap:=h',toks:=tk }):wpAny (model prog w) A (call (.type "set") [.ref l]) Q E s:=by
 refine lg (PySem.F.typeCall_set_1 _) (PySem.F.newCall_set_1 _) (fun M A E s' Q' hT q'=>check_set_init_1 hT q') fun R fin=>?_
 have hS:(s.heap.push (bu w)).get? s.heap.objs.size=some (bu w):=Heap.get?_push_size _ rfl
 have hT:Shared.TypeIs { s with heap:=s.heap.push (bu w) } (.ref s.heap.objs.size) "set" := ⟨_,hS,rfl⟩
 have hz:(s.heap.push (bu w)).objs.size=s.heap.objs.size+1:=Heap.size_push _ _
 obtain⟨ol,hol,hcl,nl,hdl⟩:=id hl
 obtain⟨ocls,odict,odata,oslots⟩:=ol
 simp only at hcl hdl
 subst hcl
 subst hdl
 have hol':(s.heap.push (bu w)).get? l=some { cls:=.type "list",dict:=odict,data:=.seq items nl,slots:=oslots }:=Heap.get?_push_of_some _ hol
 have hsls:=PySem.F.sub_list_set
 have hslf:=PySem.F.sub_list_frozenset
 have hne:(Value.type "list" == Value.type "dict")=false:=by decide
 have hl1:(s.heap.push (bu w)).IsList l items:=⟨_,hol',rfl,nl,rfl⟩
 have hlS:l < s.heap.objs.size:=Heap.lt_size hol
 unfold bu at hS hT hz hol' hl1 ⊢
 unfold Builtin.«set.__init__» noKeywords Builtin.Frozenset.updateFrom
 generalize hPI:pyIter=PI
 wp_walk
 subst hPI
 refine wpAny_pyIter_list hl1 ?_
 refine wpAny_bind (wpAny_runValue ?_)
 have hh3:A.in1.in1.in1.handled=none:=by simp [hh]
 refine o6 (L:=s.heap.objs.size) ((Walks.list hh3 _ l ?_ items).toS) ?_ ms ?_ (fun i v hv=>?_) hb (items.size - 0) 0 _ (by omega) (Nat.zero_le _) ⟨⟨_,Heap.get?_push_size _ rfl,rfl,rfl⟩,(hl1.push _)⟩ ?_ fun s' mv S'=>?_
 ·rw [hz];exact Nat.ne_of_lt (Nat.lt_succ_of_lt hlS)
 ·rw [hz]
  intro hmem
  rcases gh hmem with e | e
  ·exact absurd e (Nat.ne_of_lt (Nat.lt_succ_self _))
  ·exact absurd e (Nat.ne_of_gt hlS)
 ·rw [<-hm.length,Array.length_toList]
 ·have hv':items.toList[i]? = some v:=by rw [Array.getElem?_toList];exact hv
  exact i7 hm hv'
 ·exact gf rfl (Heap.get?_push_of_some _ hS)
 ·obtain⟨h',g',d',tk',os'⟩:=s'
  have eg:g' = s.gens:=mv.gens
  have ed:d' = s.drawn:=mv.drawn
  have eo:os' = s.os:=mv.os
  subst eg;subst ed;subst eo
  have kp:∀ b o,s.heap.get? b=some o->h'.get? b=some o:=fun b o e=>mv.heap b o (fun hm=>by
   rcases gh hm with e' | e'
   ·exact absurd e' (Nat.ne_of_lt (Heap.lt_size e))
   ·rw [hz] at e';exact absurd e' (Nat.ne_of_lt (Nat.lt_succ_of_lt (Heap.lt_size e)))) (Heap.get?_push_of_some _ (Heap.get?_push_of_some _ e))
  show wpAny _ _ _ _ _ _
  refine wpAny_pure ?_
  exact wpAny_pure (fin h' tk' kp (q h' tk' S' kp))
end
end LS
namespace L2
open PySem PySem.Spec PyProof.Rows LS
theorem o9:bootBuiltins "set" = some (.type "set"):=by decide +kernel
theorem rR {K:Type} [DecidableEq K] {k:K} {ks:List K}:decide (k ∈ ks)=true ↔ k ∈ ks:=decide_eq_true_iff
theorem gP {P:Program} {w:World} {k:Key} {v:Value} (r:RelV (kV k) v):(ai P w).is k v=true:=by
 cases k with
 | inl i=>obtain⟨t,rfl⟩:=r;exact gW P w i t
 | inr x=>obtain⟨t,rfl⟩:=r;exact gX P w x t
theorem ic {P:Program} {w:World}:∀ {ks:List Key} {us:List Value},Vals (ks.map kV) us->Paired (fun v k=>(ai P w).is k v=true) us ks
 | [],_,.nil=>.nil
 | k :: ks,_,.cons r t=>.cons (gP r) (ic t)
section
variable {X:Cx}
theorem Inv.vC {pins:List (Addr × Obj)} {σ : List (Option V)} {H:Hp} {s:Shared} {n:Nat} (I:Inv X pins σ H s):Inv X pins σ H { s with toks:=n }:=⟨I.ok,I.os,I.bare,I.base,I.loc,I.cell,I.free,I.cI,I.pin,I.av,I.len⟩
theorem pf:cf X (.type "set") (fun vs H Q=>vs = []/\∀ l,H l=none->Q (.ref l) (upd H l (aW X.prog X.w l []))):=by
 intro pins s σ H xs us Q I r h
 obtain⟨rfl,q⟩:=h
 cases r
 refine o8 fun h' S kp=>?_
 exact⟨.ref s.heap.objs.size,_,I.laid (t':=s.toks) kp (Nat.le_refl _) (fc S),rfl,q _ I.fresh⟩
theorem ph (hc:X.calm=true):cf X (.type "set") (fun vs H Q=>∃ (p:Addr) (ks:List Key),vs = [.ref p]/\ax X.K H p (ks.map kV)/\ks.length+1 < scanBound/\∀ l,H l=none->Q (.ref l) (upd H l (aW X.prog X.w l (aV ks)))):=by
 intro pins s σ H xs us Q I r h
 obtain⟨p,ks,rfl,hp,hz,q⟩:=h
 obtain⟨u,rfl,ru⟩:=vals1 r
 cases (show u=Value.ref p from ru)
 obtain⟨its,hv,pl,_⟩:=I.list hp
 have hm:=ic (P:=X.prog) (w:=X.w) hv
 refine LS.set_list (I.ok.hd hc) pl.isList (by simpa using hm) (by have:=hm.length;simp at this ⊢;omega) fun h' tk S kp=>?_
 exact⟨.ref s.heap.objs.size,_,I.laid (t':=tk) kp (Nat.le_refl _) (fc S),rfl,q _ I.fresh⟩
inductive vi (P:Program) (w:World) (neg:Bool) (x:V) (y:V) (H:Hp) (Q:VK):Prop
 | mk (a ks k:_) (_:y=.ref a) (_:H a=some (aW P w a ks)) (_:x=kV k) (_:∀ b:Bool,(b=true ↔ k ∈ ks)->Q (.bl (if neg then !b else b)) H)
theorem pA:cv X (compareOp .NotIn) (vi X.prog X.w true):=by
 intro pins s σ H x y v u Q I rx ry h
 obtain⟨a,ks,k,rfl,ha,rfl,q⟩:=h
 cases ry
 have hk:(ai X.prog X.w).is k v=true:=gP rx
 have S:=(I.jo ha).setOf
 exact wpAny_notInSet_of hk (kZ hk) S ⟨.bl _,H,I.vC,rfl,q _ rR⟩
def vj (P:Program) (w:World) (r:V->List V->Hp->VK->Prop) (to:TE) (t:TA):TE:=fun σ H Q=>to σ H fun x H1=>(∃ a ks,x=.ref a/\H1 a=some (aW P w a ks))/\t σ H1 fun xs H2=>r x xs H2 Q
variable {o e:Expr} {es:List Expr} {to:TE} {t:TA} {name:Str} {apos cpos:Pos} {id:String} {r:V->List V->Hp->VK->Prop}
theorem pB (slot:Slot "set" name id) (hty:typeOf (.builtin id)=pure (.type "method_descriptor")) (hm:oE X id r) (ho:PE X o to) (ha:PA X (e :: es) t)
  (hbase:attributeBase o name X.env (eval o X.env)=eval o X.env:=by rfl)
  (hfew:((backTo cpos (starEach (e :: es) X.env)).all (fun x=>!x.1) && (backToKw cpos (keywordEach [] X.env)).all (fun x=>x.1.isSome)
   && decide ((e :: es).length+([]:List Keyword).length+(if ([]:List Keyword).isEmpty then 0 else 1) < 30))=true:=by rfl)
  (hline:(apos.endLine == cpos.line)=true:=by rfl) (hs:starEach (e :: es) X.env=(false,eval e X.env) :: starEach es X.env:=by rfl) (hplain:(backTo cpos (starEach es X.env)).any (·.1)=false:=by rfl) :
  PE X (.Call (.Attribute o name apos) (e :: es) [] cpos) (vj X.prog X.w r to t):=by
 intro pins s σ H Q I h
 refine wpAny_Call_method_late hbase hfew hline rfl (aK (ho pins s σ H _ I h) fun v s1 ⟨x,H1,I1,r1,ty,q1⟩=>?_)
 obtain⟨a,ks,rfl,hset⟩:=ty
 cases (show v=Value.ref a from r1)
 have S:=(I1.jo hset).setOf
 refine⟨"set",id,PySem.F.plainAttrs_set,slot,hty,S.typeIs,S.noDict,?_⟩
 have hA:=ha cpos pins s1 σ H1 _ I1 q1
 rw [hs] at hA ⊢
 refine Calls.callWith_builtin (by show (false || (backTo cpos (starEach es X.env)).any (·.1))=false;rw [hplain] <;> rfl) (Calls.evalArgs_plain ?_)
 exact aK hA fun us s2 ⟨vs,H2,I2,r2,q2⟩=>hm pins s2 σ H2 (.ref a) vs (.ref a) us Q I2 rfl r2 q2
inductive uF (P:Program) (w:World) (x:V) (vs:List V) (H:Hp) (Q:VK):Prop
 | mk (a ks k:_) (_:x=.ref a) (_:vs = [kV k]) (_:H a=some (aW P w a ks)) (_:ks.length+1 < scanBound) (_:Q .bo (upd H a (aW P w a (putIn ks k))))
theorem mU:oE X "set.add" (uF X.prog X.w):=by
 intro pins s σ H x xs v us Q I rx r h
 obtain⟨a,ks,k,rfl,rfl,ha,hz,q⟩:=h
 cases (show v=Value.ref a from rx)
 obtain⟨u,rfl,ru⟩:=vals1 r
 refine qC (gP ru) (I.jo ha) hz fun h' b S'=>?_
 refine⟨.bo,_,I.write (t':=s.toks+1) (x:=a) (e:=a) (by rw [ha];exact trivial) (.inl rfl) (fun c u' hc hu=>b.extBut c u' hc hu) ?_ (fc S'),rfl,q⟩
 obtain⟨o,_,_,_,So⟩:=S'
 exact⟨o,So.at_⟩
end
structure j4 (K:PySem.W.Frag) (mg:Str->Option Value) (aD d0 d1 d2 d3 d4:Addr):Prop where
 tab:qo K mg "DEED_PARTS" aD [("put",d0),("copy",d1),("add",d2),("read",d3),("tell",d4)]
 q0:KTup K d0 ["name", "number"]
 q1:KTup K d1 ["name", "name"]
 q2:KTup K d2 ["name", "number"]
 q3:KTup K d3 ["name"]
 q4:KTup K d4 ["name"]
def aQ:b7->List Str
 | .put x _=>[x]
 | .copy x y=>[x,y]
 | .add x _=>[x]
 | .read x=>[x]
 | .tell x=>[x]
def cF:End->List Str
 | .dr _ x _ _ _=>[x]
 | _=>[]
def pNames (p:Piece):List Str:=p.1.flatMap aQ++cF p.2
def aw (ps:List Piece):List Str:=ps.flatMap pNames
def kD:b7->List Str
 | .put ..=>["name", "number"]
 | .copy ..=>["name", "name"]
 | .add ..=>["name", "number"]
 | .read ..=>["name"]
 | .tell ..=>["name"]
def wD:b7->Str
 | .put .. => "put"
 | .copy .. => "copy"
 | .add .. => "add"
 | .read .. => "read"
 | .tell .. => "tell"
theorem nQ (d:b7):∃ xs,iW d=.str (wD d) :: xs/\xs.length<=1000/\pick "name" xs (kD d)=(aQ d).map V.str:=by
 have h2:¬ ("number" : Str) = "name" := by decide +kernel
 cases d with
 | put x n=>exact⟨_,rfl,by show 2<=1000;decide,by simp [pick,kD,aQ,h2]⟩
 | copy x y=>exact⟨_,rfl,by show 2<=1000;decide,by simp [pick,kD,aQ]⟩
 | add x n=>exact⟨_,rfl,by show 2<=1000;decide,by simp [pick,kD,aQ,h2]⟩
 | read x=>exact⟨_,rfl,by show 1<=1000;decide,by simp [pick,kD,aQ]⟩
 | tell x=>exact⟨_,rfl,by show 1<=1000;decide,by simp [pick,kD,aQ]⟩
theorem nR (e:End):∃ xs,jj e=.str (wE e) :: xs/\xs.length<=1000/\pick "name" xs (kE e)=(cF e).map V.str:=by
 have h1:¬ ("piece" : Str) = "name" := by decide +kernel
 have h2:¬ ("number" : Str) = "name" := by decide +kernel
 cases e with
 | stop=>exact⟨[],rfl,by decide,rfl⟩
 | go p=>exact⟨_,rfl,by show 1<=1000;decide,by simp [pick,kE,cF,h1]⟩
 | dr b x n p q=>exact⟨_,rfl,by show 4<=1000;decide,by simp [pick,kE,cF,h1,h2]⟩
theorem fe {k:Str} {d:Addr} {D:List (Str × Addr)}:KTD.datumAt k ((k,d) :: D)=some d:=by
 show (if decide (k=k)=true then some d else KTD.datumAt k D)=some d
 rw [if_pos (decide_eq_true rfl)]
theorem bZ {k x:Str} {d:Addr} {D:List (Str × Addr)} {o:Option Addr} (h:¬ k=x) (e:KTD.datumAt k D=o):KTD.datumAt k ((x,d) :: D)=o:=by
 show (if decide (k=x)=true then some d else KTD.datumAt k D)=o
 rw [if_neg (by rw [decide_eq_false h];decide)]
 exact e
theorem j4.at_ {K:PySem.W.Frag} {mg:Str->Option Value} {aD d0 d1 d2 d3 d4:Addr} (G:j4 K mg aD d0 d1 d2 d3 d4) (d:b7) :
  ∃ s,KTD.datumAt (wD d) [(("put" : Str),d0),("copy",d1),("add",d2),("read",d3),("tell",d4)] = some s/\KTup K s (kD d):=by
 cases d with
 | put x n=>exact⟨d0,fe,G.q0⟩
 | copy x y=>exact⟨d1,bZ (show ¬ (("copy" : Str) = "put") by decide +kernel) fe,G.q1⟩
 | add x n=>exact⟨d2,bZ (show ¬ (("add" : Str) = "put") by decide +kernel) (bZ (show ¬ (("add" : Str) = "copy") by decide +kernel) fe),G.q2⟩
 | read x=>exact⟨d3,bZ (show ¬ (("read" : Str) = "put") by decide +kernel) (bZ (show ¬ (("read" : Str) = "copy") by decide +kernel) (bZ (show ¬ (("read" : Str) = "add") by decide +kernel) fe)),G.q3⟩
 | tell x=>exact⟨d4,bZ (show ¬ (("tell" : Str) = "put") by decide +kernel) (bZ (show ¬ (("tell" : Str) = "copy") by decide +kernel) (bZ (show ¬ (("tell" : Str) = "add") by decide +kernel) (bZ (show ¬ (("tell" : Str) = "read") by decide +kernel) fe))),G.q4⟩
theorem qD (acc ys:List Str):(ys.map (Sum.inr:Str->Key)).foldl LS.putIn (acc.map Sum.inr)=(ys.foldl LS.putIn acc).map Sum.inr:=by
 induction ys generalizing acc with
 | nil=>rfl
 | cons y ys ih =>
  rw [List.map_cons,List.foldl_cons,List.foldl_cons,<-ih]
  congr 1
  unfold LS.putIn
  by_cases h:y ∈ acc
  ·rw [if_pos h,if_pos (List.mem_map.mpr ⟨y,h,rfl⟩)]
  ·rw [if_neg h,if_neg (fun z=>by obtain⟨x,hx,e⟩:=List.mem_map.mp z;cases e;exact h hx),List.map_append];rfl
theorem nS (ys:List Str):aV (ys.map (Sum.inr:Str->Key))=(aV ys).map Sum.inr:=qD [] ys
theorem rS (ys:List Str):(ys.map (Sum.inr:Str->Key)).map kV=ys.map V.str:=by rw [List.map_map];rfl
theorem gr {xs:List Str} {m:Nat} {ps:List Piece} (ok:cE xs m ps):∀ x ∈ aw ps,x ∈ xs:=fun x hx=>by
 obtain⟨p,hp,hx⟩:=List.mem_flatMap.mp hx
 rcases List.mem_append.mp hx with h | h
 ·obtain⟨d,hd,h⟩:=List.mem_flatMap.mp h
  have dk:=(ok.j2 p hp).2 d hd
  cases d with
  | put a n=>rw [List.mem_singleton.mp h];exact dk.1
  | copy a b =>
   rcases List.mem_cons.mp h with rfl | h
   ·exact dk.1
   ·rw [List.mem_singleton.mp h];exact dk.2
  | add a n=>rw [List.mem_singleton.mp h];exact dk.1
  | read a=>rw [List.mem_singleton.mp h];exact dk
  | tell a=>rw [List.mem_singleton.mp h];exact dk
 ·have ek:=ok.ends p hp
  obtain⟨ds,e⟩:=p
  cases e with
  | stop=>cases h
  | go q=>cases h
  | dr b a n q r=>rw [List.mem_singleton.mp h];exact ek.1
theorem eJ {α β : Type} {l:List α} {f:α->List β} {i:Nat} {x:α} (h:l[i]? = some x):(l.take (i+1)).flatMap f=(l.take i).flatMap f++f x:=by
 rw [List.take_add_one,h,List.flatMap_append];simp
theorem fJ {α β : Type} {l:List α} {f:α->List β} (i:Nat):((l.take i).flatMap f).length<=(l.flatMap f).length:=by
 conv=>rhs;rw [<-List.take_append_drop i l,List.flatMap_append,List.length_append]
 exact Nat.le_add_right _ _
inductive jP  (vs:List V) (H:Hp) (Q:VK) (_:XK):Prop
 | mk (plv:V) (ps:List Piece) (xs:List Str) (m:Nat) (_:vs = [plv]) (_:aI H plv (cW ps)) (_:cE xs m ps) (_:xs.length < 64) (_:(aw ps).length<=4000) (_:∀ (t:Addr) (ss:List Str) (H':Hp),H' t=some (.tup (ss.map V.str))->ss.Perm (aV (aw ps))->sortedS ss=true->ss.length < 64->ah H H'->Q (.ref t) H')
theorem lh {xs:List Str} {m:Nat} {ps:List Piece} (ok:cE xs m ps):(aV (aw ps)).length<=xs.length :=
 sub_len (ft _) fun x hx=>gr ok x (gn.mp hx)
end L2
namespace PySem
section
variable {prog:Program} {w:World} {A:Around} {E:Value->Shared->Prop} {s:Shared}
end
end PySem
namespace PySem
section
variable {prog:Program} {w:World} {K:Type} [DecidableEq K] {knd:KeyKind prog w K} {A:Around} {s:Shared}
end
end PySem
namespace L2
open PySem PySem.Spec PyProof.Rows
section
variable {X:Cx}
end
def i8 (a b:Str):Prop:=a.cps.toList<=b.cps.toList
theorem pC {a b c:Str} (h:i8 a b) (g:i8 b c):i8 a c:=List.le_trans h g
theorem qE {a b:Str} (h:i8 a b) (g:i8 b a):a=b:=by
 have e:a.cps.toList=b.cps.toList:=List.le_antisymm h g
 have e2:a.cps=b.cps:=by rw [<-Array.toArray_toList (xs:=a.cps),e,Array.toArray_toList]
 cases a
 cases b
 cases e2
 rfl
theorem jQ:∀ (l:List Str) (p:Str),risingS p l=true->(p :: l).Pairwise i8
 | [],p,_=>by simp
 | x :: r,p,h=>by
  have h':(!ltCps x.cps.toList p.cps.toList && risingS x r)=true:=h
  rw [Bool.and_eq_true,Bool.not_eq_true'] at h'
  have h1:i8 p x:=by
   have:=h'.1
   rw [ltCps_eq] at this
   exact of_decide_eq_false this
  have ih:=jQ r x h'.2
  refine List.Pairwise.cons (fun y hy=>?_) ih
  rcases List.mem_cons.mp hy with e | hy
  ·rw [e];exact h1
  ·exact pC h1 ((List.pairwise_cons.mp ih).1 y hy)
theorem jR {l:List Str} (h:sortedS l=true):l.Pairwise i8:=by
 cases l with
 | nil=>exact List.Pairwise.nil
 | cons x r=>exact jQ r x h
structure bp (ss:List Str):Prop where
 pw:ss.Pairwise i8
 nd:ss.Nodup
theorem bp.tail {x:Str} {r:List Str} (h:bp (x :: r)):bp r:=⟨(List.pairwise_cons.mp h.pw).2,(List.nodup_cons.mp h.nd).2⟩
theorem bp.unique:∀ {l m:List Str},bp l->bp m->(∀ x,x ∈ l ↔ x ∈ m)->l=m
 | [],[],_,_,_=>rfl
 | [],b :: m,_,_,h=>absurd ((h b).mpr (List.mem_cons_self ..)) (by simp)
 | a :: l,[],_,_,h=>absurd ((h a).mp (List.mem_cons_self ..)) (by simp)
 | a :: l,b :: m,hl,hm,h=>by
  have e:a=b:=by
   rcases List.mem_cons.mp ((h a).mp (List.mem_cons_self ..)) with e | h1
   ·exact e
   ·rcases List.mem_cons.mp ((h b).mpr (List.mem_cons_self ..)) with e | h2
    ·exact e.symm
    ·exact qE ((List.pairwise_cons.mp hl.pw).1 b h2) ((List.pairwise_cons.mp hm.pw).1 a h1)
  subst e
  have na:=(List.nodup_cons.mp hl.nd).1
  have nb:=(List.nodup_cons.mp hm.nd).1
  rw [bp.unique hl.tail hm.tail fun x=>⟨fun hx=>?_,fun hx=>?_⟩]
  ·rcases List.mem_cons.mp ((h x).mp (List.mem_cons_of_mem _ hx)) with e | h1
   ·exact absurd (by rw [<-e];exact hx) na
   ·exact h1
  ·rcases List.mem_cons.mp ((h x).mpr (List.mem_cons_of_mem _ hx)) with e | h1
   ·exact absurd (by rw [<-e];exact hx) nb
   ·exact h1
section
variable {X:Cx}
end
section
variable {C D:Addr} {H0 H H1:Hp} {w0 w1:WA} {plv:V} {x0 x1 x':tS}
end
section
variable {prog:Program} {w:World} {E:Value->Shared->Prop}
end
abbrev KX (kvs:List (PyData × Addr × V)) (xs:List (PyData × Addr × Value)):Prop:=Paired (fun (p:PyData × Addr × V) (q:PyData × Addr × Value)=>p.1=q.1/\p.2.1=q.2.1/\RelV p.2.2 q.2.2) kvs xs
section
variable {X:Cx} {pins:List (Addr × Obj)} {σ : St} {H:Hp} {s:Shared} {a k:Addr} {kvs:List (PyData × Addr × V)} {d:PyData}
end
open LS
section
variable {X:Cx}
end
section
variable {a0 a1 z:V}
end
abbrev vN (ms:List Nat):List V:=ms.map fun k=>V.int (k:Nat)
section
variable {C r m d:Addr} {H H':Hp} {ms:List Nat}
end
section
variable (C:Addr)
end
theorem bX {l:List Nat} {n:Nat} (nd:l.Nodup) (h:∀ x ∈ l,x < n):l.length<=n:=by
 have:=sub_len nd (m:=List.range n) fun x hx=>List.mem_range.mpr (h x hx)
 simpa using this
theorem lj {ms:List Nat} {k:Nat} (h:ms.Nodup):(LS.putIn ms k).Nodup:=by
 unfold LS.putIn
 split
 ·exact h
 ·next hk =>
  rw [List.nodup_append]
  refine⟨h,by simp,fun x hx y hy z=>?_⟩
  rw [List.mem_singleton.mp hy] at z
  exact hk (z ▸ hx)
theorem jr:∀ ds:List PyData,(∀ d ∈ ds,d.canLay0=true)->(PyData.tuple ds).canLay0=true
 | [],_=>rfl
 | d :: ds,h=>by
  have ih:=jr ds fun x hx=>h x (List.mem_cons_of_mem _ hx)
  show (d.canLay0 && (PyData.tuple ds).canLay0)=true
  rw [h d (List.mem_cons_self ..),ih]
  rfl
theorem mV {m:Nat}:∀ ds:List PyData,(∀ d ∈ ds,d.depth<=m)->PyData.depthAll ds<=m
 | [],_=>Nat.zero_le _
 | d :: ds,h=>by
  have ih:=mV ds fun x hx=>h x (List.mem_cons_of_mem _ hx)
  have h1:=h d (List.mem_cons_self ..)
  show max d.depth (PyData.depthAll ds)<=m
  omega
theorem mW (k:Nat):∀ ms:List Nat,mE (.int (k:Nat)) (vN ms)=decide (k ∈ ms)
 | []=>rfl
 | m :: ms=>by
  have ih:=mW k ms
  show ((((m:Nat):Int) == ((k:Nat):Int)) || mE (.int (k:Nat)) (vN ms))=_
  rw [ih]
  by_cases e:m=k
  ·subst e;simp
  ·have e':¬ (m:Int)=(k:Int):=by omega
   rw [beq_false_of_ne e',Bool.false_or]
   have:k ∈ m :: ms ↔ k ∈ ms:=by rw [List.mem_cons];exact⟨fun h=>h.resolve_left fun z=>e z.symm,.inr⟩
   simp only [this]
theorem rT (ms:List Nat):(vN ms).all dB=true:=by rw [List.all_eq_true];intro v hv;obtain⟨k,_,rfl⟩:=List.mem_map.mp hv;rfl
theorem gs (ms:List Nat):vN ms=(ms.map fun k:Nat=>(k:Int)).map V.int:=by rw [List.map_map];rfl
section
variable {X:Cx} {pins:List (Addr × Obj)} {σ : L2.St} {H:Hp} {s:Shared} {a:Addr}
end
section
variable {X:Cx}
end
theorem qF {x:Str} (h:cA x):PyData.canLay0 (.str x)=true:=by
 show (x.cps.all fun c=>decide (c < 0x110000))=true
 rw [<-Array.all_toList,List.all_eq_true]
 intro c hc
 have:=h.az c hc
 exact decide_eq_true (by omega)
section
variable {X:Cx}
end
section
variable {prog:Program} {w:World} {A:Around} {E:Value->Shared->Prop} {s:Shared}
end
section
variable {X:Cx}
end
inductive pD  (vs:List V) (H:Hp) (Q:VK) (_:XK):Prop
 | mk (plv:V) (ps:List Piece) (xs:List Str) (m:Nat) (_:vs = [plv]) (_:aI H plv (cW ps)) (_:cE xs m ps) (_:xs.length < 64) (_:∀ (l:Addr) (ss:List Str) (H':Hp),H' l=some (.lst (ss.map V.str))->ss.Perm (aV (aw ps))->sortedS ss=true->ss.length < 64->ah H H'->Q (.ref l) H')
def KeysAre (kvs:List (Key × V)) (ns:List Str):Prop:=kvs.map (·.1)=(aV ns).map Sum.inr
theorem nT (ns:List Str) (x:Str):aV (ns ++ [x])=LS.putIn (aV ns) x:=by unfold aV;rw [List.foldl_append];rfl
theorem KeysAre.put {kvs:List (Key × V)} {ns:List Str} (h:KeysAre kvs ns) (x:Str) (v:V):KeysAre (putK kvs (Sum.inr x) v) (ns ++ [x]):=by
 unfold KeysAre at h ⊢
 rw [nT]
 unfold LS.putIn
 rcases jN (kvs:=kvs) (k:=(Sum.inr x:Key)) (v:=v) with ⟨e1,hm⟩ | ⟨e1,hn⟩
 ·rw [h] at hm
  obtain⟨y,hy,e⟩:=List.mem_map.mp hm
  cases e
  rw [if_pos hy,e1,h]
 ·rw [if_neg (fun z=>hn (by rw [h];exact List.mem_map.mpr ⟨x,z,rfl⟩)),e1,h,List.map_append];rfl
theorem KeysAre.len {kvs:List (Key × V)} {ns:List Str} (h:KeysAre kvs ns):kvs.length=(aV ns).length:=by have:=congrArg List.length h;simpa using this
theorem qG {ns xs:List Str} (h:∀ x ∈ ns,x ∈ xs):(aV ns).length<=xs.length:=sub_len (ft _) fun x hx=>h x (gn.mp hx)
theorem rV {l m n:List Str} (p:l.Perm (LS.aV n)) (q:m.Perm (LS.aV n)) (hl:sortedS l=true) (hm:sortedS m=true):l=m :=
 bp.unique ⟨jR hl,p.nodup_iff.mpr (LS.ft _)⟩ ⟨jR hm,q.nodup_iff.mpr (LS.ft _)⟩ fun _=>(p.trans q.symm).mem_iff
theorem rW {xs:List Str} {m:Nat} {ps:List Piece} (ok:cE xs m ps):(aw ps).length<=ps.length * (2 * m+1):=by
 unfold aw
 have h:∀ p ∈ ps,(pNames p).length<=2 * m+1:=fun p hp=>by
  have h1:=(ok.j2 p hp).1
  unfold pNames
  rw [List.length_append]
  have h2:(p.1.flatMap aQ).length<=2 * p.1.length:=by
   induction p.1 with
   | nil=>simp
   | cons d ds ih =>
    rw [List.flatMap_cons,List.length_append,List.length_cons]
    have:(aQ d).length<=2:=by cases d <;> simp [aQ]
    omega
  have h3:(cF p.2).length<=1:=by cases p.2 <;> simp [cF]
  omega
 clear ok
 induction ps with
 | nil=>simp
 | cons p ps ih =>
  rw [List.flatMap_cons,List.length_append,List.length_cons]
  have h1:=h p (List.mem_cons_self ..)
  have h2:=ih fun q hq=>h q (List.mem_cons_of_mem _ hq)
  rw [Nat.add_mul]
  omega
theorem lS {K:PySem.W.Frag} {cd:Value} {q:Str} (h:PySem.W.codeIn K cd q=true):PySem.W.kdsCode K cd=true:=by
 unfold PySem.W.codeIn at h
 unfold PySem.W.kdsCode
 split at h
 ·split at h
  ·rename_i ho
   dsimp only
   rw [ho]
  ·cases h
 ·cases h
theorem rZ {prog:Program} {w:World} {A:Around} {E:Value->Shared->Prop} {s:Shared} {Q:Value->Shared->Prop} (q:Q (.ref s.heap.objs.size) { s with heap:=s.heap.push (bu w) }):wpAny (model prog w) A (newSet (.type "set")) Q E s:=by
 unfold newSet setsByText
 refine wpAny_bind (wpAny_bind (wpAny_askSetting (wpAny_pure ?_)))
 dsimp only
 simp only [newObj]
 first
  | exact wpAny_alloc (wpAny_pure q)
  | exact wpAny_bind (wpAny_alloc (wpAny_pure q))
  | exact wpAny_bind (wpAny_alloc (wpAny_pure (wpAny_pure q)))
  | exact wpAny_bind (wpAny_alloc q)
section
variable {X:Cx}
theorem r9 {e:Expr} {k:Nat} {pos:Pos} {te:TE} (hc:PySem.W.kdsCode X.K X.env.code=true) (he:PE X e te) (hk:displayRoad k [e] = .oneByOne:=by rfl) (hs:starEach [e] X.env = [(false,eval e X.env)]:=by rfl) :
  PE X (.Set [e] k pos) (fun σ H Q=>∀ l,H l=none->te σ (upd H l (aW X.prog X.w l [])) fun x H1=>H1 l=some (aW X.prog X.w l [])/\∃ kk,x=kV kk/\Q (.ref l) (upd H1 l (aW X.prog X.w l [kk]))):=by
 intro pins s σ H Q I h
 rw [arm_eval_Set]
 refine wpAny_bind (wpAny_standAt ?_)
 refine wpAny_bind (PySem.W.kds_main I.jD hc fun b=>?_)
 rw [hs,hk]
 unfold setDisplay
 dsimp only
 rw [if_neg (by decide)]
 refine wpAny_bind (rZ ?_)
 dsimp only
 simp only [List.map_cons,List.map_nil,List.length_cons,List.length_nil,Nat.reduceAdd,gt_iff_lt,Nat.reduceLT,if_false,List.findIdx?_cons,List.findIdx?_nil,Option.map_none,Option.getD_none,List.take_succ_cons,List.take_zero,List.drop_succ_cons,List.drop_nil,evalAll,Bool.false_eq_true]
 have hS:bS (ai X.prog X.w) (s.heap.push (bu X.w)) s.heap.objs.size []:=gf rfl (Heap.get?_push_size _ rfl)
 have I1:Inv X pins σ (upd H s.heap.objs.size (aW X.prog X.w s.heap.objs.size [])) { s with heap:=s.heap.push (bu X.w) }:=I.laid (t':=s.toks) (fun b o e=>Heap.get?_push_of_some _ e) (Nat.le_refl _) (fc hS)
 refine wpAny_bind (wpAny_holding ?_)
 refine wpAny_bind (wpAny_bind (wpAny_bind (aK (he pins _ σ _ _ I1 (h _ I.fresh)) fun v s1 ⟨x,H1,I2,rx,hl1,kk,ex,q⟩=>wpAny_bind (wpAny_standAt (wpAny_pure ?_)))))
 subst ex
 refine wpAny_bind (wpAny_holding (wpAny_pure (wpAny_pure ?_)))
 refine wpAny_bind (wpAny_holding ?_)
 simp only [List.forIn_cons,List.forIn_nil]
 refine wpAny_bind (wpAny_bind (wpAny_bind (jq (gP rx) (I2.jo hl1) (by decide) fun h' b S' c=>wpAny_pure ?_)))
 refine wpAny_pure ?_
 rw [if_neg (by decide)]
 refine wpAny_pure ?_
 refine wpAny_bind (wpAny_pure (wpAny_pure (wpAny_pure ?_)))
 have e1:LS.putIn ([]:List Key) kk = [kk]:=by unfold LS.putIn;rw [if_neg (by simp)];rfl
 rw [e1] at S'
 refine⟨.ref s.heap.objs.size,_,I2.write (t':=s1.toks+1) (x:=s.heap.objs.size) (e:=s.heap.objs.size) (by rw [hl1];exact trivial) (.inl rfl) (fun c u' hc hu=>b.extBut c u' hc hu) ?_ (fc S'),rfl,q⟩
 obtain⟨o,_,_,_,So⟩:=S'
 exact⟨o,So.at_⟩
end
section
variable {prog:Program} {w:World} {A:Around} {E:Value->Shared->Prop} {s:Shared}
end
section
variable {X:Cx}
end
section
variable {X:Cx}
end
section
variable {P:Program} {w:World} {K:PySem.W.Frag} {mg:Str->Option Value} {base:Heap}
theorem b0.vD {x qual:Str} {st:Stmt} {f:Addr} {fd:FuncData} {N ps:List Str} {k:Nat} {sp:Sp} (F:b0 K x qual st f fd) (S:aN N ps (ao st)) (len:∀ vs H Q E,sp vs H Q E->vs.length=ps.length)
  (hbody:∀ (cdv:Value) (A:Around) (outer:List Env) (s:Shared) (H:Hp) (vs:List V) (Q:VK) (E:XK),PySem.W.kdsCode K cdv=true->bY k (A.deeper (envOfC qual (ao st) s.heap.objs.size f cdv))->sp vs H Q E ->
   ∃ t,eF (il bW P w K mg base N qual (ao st) f cdv A outer s H E).mj (bM st) t/\t { nx:=fun _ H'=>Q .bo H',rt:=Q } (start N vs) H):bw P w K mg base bW (k+1) f fd ps sp:=by
 obtain⟨oc,od,kV,doc,pm,an,cdv,ct,osl,rfl,lk,hcd⟩:=F.ex
 refine qO lk hcd S len fun A outer s H vs Q E hr hsp=>?_
 obtain⟨t,h,q⟩:=hbody cdv A outer s H vs Q E (lS hcd) hr hsp
 exact⟨t,h.mj,q⟩
end
section
variable {P:Program} {w:World} {C r m d:Addr} {H H':Hp} {ms:List (PyData × Addr)}
end
section
variable (P:Program) (w:World) (C:Addr)
end
inductive dN (ps:List Piece):Nat->Prop
 | zero:dN ps 0
 | step {i k:Nat} {ds:List b7} {e:End}:dN ps i->ps[i]? = some (ds,e)->k ∈ aB e->dN ps k
def qZ (ps:List Piece) (k:Nat):Prop:=∃ i ds e,dN ps i/\ps[i]? = some (ds,e)/\k ∈ aB e/\k<=i
abbrev kI (ks:List Nat):List Key:=ks.map fun k:Nat=>(Sum.inl (k:Int):Key)
theorem ll {ks:List Nat} {k:Nat}:(Sum.inl (k:Int):Key) ∈ kI ks ↔ k ∈ ks:=by
 rw [List.mem_map]
 constructor
 ·rintro⟨x,hx,e⟩
  have:=Sum.inl.inj e
  rw [show k=x by omega];exact hx
 ·intro h;exact⟨k,h,rfl⟩
theorem lq {ks:List Nat} {k:Nat}:LS.putIn (kI ks) (Sum.inl (k:Int))=kI (LS.putIn ks k):=by
 unfold LS.putIn
 by_cases h:k ∈ ks
 ·rw [if_pos h,if_pos (ll.mpr h)]
 ·rw [if_neg h,if_neg (fun z=>h (ll.mp z))]
  show _=(ks ++ [k]).map _
  rw [List.map_append];rfl
theorem jt (ks:List Nat):kI ks=(ks.map fun k:Nat=>(k:Int)).map Sum.inl:=by rw [List.map_map];rfl
structure nU (ps:List Piece) (ks ws:List Nat):Prop where
 nd:ks.Nodup
 lt:∀ k ∈ ks,k < ps.length
 lr:∀ k ∈ ks,dN ps k
 zero:0 ∈ ks
 sub:∀ k ∈ ws,k ∈ ks
 done:∀ k ∈ ks,k ∈ ws\/∀ ds e,ps[k]? = some (ds,e)->∀ j ∈ aB e,j ∈ ks
theorem nU.all {ps:List Piece} {ks:List Nat} (h:nU ps ks []):∀ k,k ∈ ks ↔ dN ps k:=fun k=>by
 refine⟨h.lr k,fun r=>?_⟩
 induction r with
 | zero=>exact h.zero
 | step r hp hk ih=>exact (h.done _ ih).elim (fun z=>nomatch z) fun z=>z _ _ hp _ hk
theorem gQ {ps:List Piece} (hin:fb ps) {i:Nat} {ds:List b7} {e:End} (h:ps[i]? = some (ds,e)):∀ k ∈ aB e,k < ps.length:=fun k hk=>by
 have h1:=hin _ (List.mem_of_getElem? h)
 cases e with
 | stop=>cases hk
 | go p=>rw [List.mem_singleton.mp hk];exact h1
 | dr b x n p q =>
  rcases List.mem_cons.mp hk with z | z
  ·rw [z];exact h1.1
  ·rw [List.mem_singleton.mp z];exact h1.2
theorem cY {ss:List Int} {ks:List Nat} (h:ss.Perm (ks.map fun k:Nat=>(k:Int))):∃ ms:List Nat,ss=ms.map (fun k:Nat=>(k:Int))/\ms.Perm ks:=by
 refine⟨ss.map Int.toNat,?_,?_⟩
 ·rw [List.map_map]
  have:∀ x ∈ ss,((fun k:Nat=>(k:Int)) ∘ Int.toNat) x=x:=fun x hx=>by
   obtain⟨k,_,rfl⟩:=List.mem_map.mp (h.mem_iff.mp hx)
   show ((Int.toNat (k:Int):Nat):Int)=k
   omega
  rw [List.map_congr_left this,List.map_id']
 ·have:=h.map Int.toNat
  rw [List.map_map] at this
  have e:ks.map (Int.toNat ∘ fun k:Nat=>(k:Int))=ks:=by
   rw [List.map_congr_left (g:=id) (fun x _=>by show Int.toNat (x:Int)=x;omega),List.map_id]
  rw [e] at this
  exact this
section
variable (tops:Nat->Prop) (most:Nat)
end
theorem i9:∀ {vs:List Value} {ks:List Int},vs.length=ks.length->(∀ (j:Nat) (v:Value) (x:Int),vs[j]? = some v->ks[j]? = some x->∃ t,v=.int x t)->IntsAre vs ks
 | [],[],_,_=>.nil
 | [],_ :: _,h,_=>by cases h
 | _ :: _,[],h,_=>by cases h
 | v :: vs,x :: ks,hl,h=>by
  obtain⟨t,rfl⟩:=h 0 v x rfl rfl
  exact .cons x t (i9 (by simpa using hl) fun j v y h1 h2=>h (j+1) v y (by simpa using h1) (by simpa using h2))
section
variable {prog:Program} {w:World} {A:Around} {E:Value->Shared->Prop} {s:Shared}
end
section
variable {X:Cx}
end
inductive fu  (vs:List V) (H:Hp) (Q:VK) (_:XK):Prop
 | mk (ea:Addr) (e:End) (_:vs = [.ref ea]) (_:H ea=some (.tup (jj e))) (_:∀ l H',H l=none->H' l=some (.lst (vN (aB e)))->ah H H'->Q (.ref l) H')
section
variable {prog:Program} {w:World} {A:Around} {E:Value->Shared->Prop} {s:Shared}
theorem lu {l:Addr} {vs:List Value} {ns:List Int} {Q:Value->Shared->Prop} (hl:s.heap.IsList l vs.toArray) (hI:IntsAre vs ns) (hn:vs.length<=10000)
  (h:∀ (out:Array Value) (ns':List Int),IntsAre out.toList ns'->ns'.Perm ns->ns'.Pairwise (· <= ·)->Q (.ref (s.heap.objs.size+1)) { s with heap:=sortedAll s.heap vs out }) :
  wpAny (model prog w) A (call (.builtin "sorted") [.ref l]) Q E s:=by
 refine Calls.call_function_entry kind_sorted plain_sorted entry_sorted (args_sorted1 _) ?_
 unfold Builtin.«sorted»
 refine wpAny_bind (m:=checkCount "sorted" 1 1 _) (wpAny_pure (wpAny_bind (collect_list hl (wpAny_bind (wpAny_newList ?_ (Nat.le_trans hn (by decide)))) (Nat.le_trans hn (by decide)))))
 have hz:((s.heap.push (seqObj "list" #[] 0)).update s.heap.objs.size (Obj.mapSeq (· ++ vs.toArray))).objs.size=s.heap.objs.size+1:=by rw [Heap.size_update,size_push']
 have hoL:(((s.heap.push (seqObj "list" #[] 0)).update s.heap.objs.size (Obj.mapSeq (· ++ vs.toArray))).push (seqObj "list" vs.toArray 0)).get? (s.heap.objs.size+1)=some (seqObj "list" vs.toArray 0):=hz ▸ Heap.get?_push_size _ rfl
 show wpAny _ _ _ _ _ { s with heap:=((s.heap.push (seqObj "list" #[] 0)).update s.heap.objs.size (Obj.mapSeq (· ++ vs.toArray))).push (seqObj "list" vs.toArray 0) }
 rw [hz]
 exact wpAny_bind (wpAny_holding (wpAny_call_entry slot_list_sort ⟨_,hoL,rfl⟩ entry_list_sort (dn.fN hoL hI hn fun out ns' c1 c2 c3=>⟨_,rfl,wpAny_pure ⟨_,rfl,h out ns' c1 c2 c3⟩⟩) (args_list_sort _)))
theorem jU {l:Addr} {vs:List Value} {ns:List Int} {Q:Value->Shared->Prop} (hl:s.heap.IsList l vs.toArray) (hI:IntsAre vs ns) (h64:vs.length<=10000)
  (q:∀ (h':Heap) (D:Addr) (out:Array Value) (ns':List Int) (e:Nat),(∀ b o,s.heap.get? b=some o->h'.get? b=some o)->s.heap.objs.size<=D->h'.get? D=some { cls:=.type "list",data:=.seq out e } ->
   IntsAre out.toList ns'->ns'.Perm ns->ns'.Pairwise (· <= ·)->Q (.ref D) { s with heap:=h' }):wpAny (model prog w) A (call (.builtin "sorted") [.ref l]) Q E s:=by
 refine lu hl hI h64 fun out ns' a1 a2 a3=>?_
 unfold sortedAll
 generalize hg:((s.heap.push (seqObj "list" #[] 0)).update s.heap.objs.size (Obj.mapSeq (· ++ vs.toArray)))=g
 have hz:g.objs.size=s.heap.objs.size+1:=by rw [<-hg,Heap.size_update,size_push']
 have kp:∀ b o,s.heap.get? b=some o->g.get? b=some o:=fun b o e=>by
  rw [<-hg]
  exact (Heap.get?_update_other _ _ (Nat.ne_of_gt (Heap.lt_size e))).trans (Heap.get?_push_of_some _ e)
 have hoL:(g.push (seqObj "list" vs.toArray 0)).get? (s.heap.objs.size+1)=some (seqObj "list" vs.toArray 0):=by rw [<-hz];exact Heap.get?_push_size _ rfl
 obtain⟨e,he⟩:=sortedHeap_at (out:=out) hoL
 refine q _ _ out ns' e (fun b o ho=>?_) (Nat.le_succ _) he a1 a2 a3
 have h1:=kp b o ho
 have hlt:=Heap.lt_size ho
 rw [sortedHeap_old (Nat.ne_of_lt (Nat.lt_succ_of_lt hlt)) (by rw [size_push',hz];exact Nat.lt_succ_of_lt (Nat.lt_succ_of_lt hlt))]
 exact Heap.get?_push_of_some _ h1
end
section
variable {prog:Program} {w:World} {A:Around} {E:Value->Shared->Prop} {s:Shared} {a:Addr} {o:Obj} {es:_} {ep:_} {t:_}
theorem lA {ss:List Int} {Q:Value->Shared->Prop} (hh:A.handled=none) (S:LS.bB (ai prog w) s.heap a (ss.map Sum.inl) o es ep t) (h64:ss.length<=10000)
  (q:∀ (h':Heap) (tk:Nat) (d:_) (D:Addr) (out:Array Value) (ss':List Int) (e:Nat),(∀ b o,s.heap.get? b=some o->h'.get? b=some o)->s.heap.objs.size<=D->h'.get? D=some { cls:=.type "list",data:=.seq out e } ->
   IntsAre out.toList ss'->ss'.Perm ss->ss'.Pairwise (· <= ·)->Q (.ref D) { s with heap:=h',toks:=tk,drawn:=d }) :
  wpAny (model prog w) A (call (.builtin "sorted") [.ref a]) Q E s:=by
 refine Calls.call_function_entry kind_sorted plain_sorted entry_sorted (args_sorted1 _) ?_
 unfold Builtin.«sorted»
 refine wpAny_bind (m:=checkCount "sorted" 1 1 _) (wpAny_pure ?_)
 refine wpAny_bind (i4 (A:=A.in1) hh S fun h' tk d acc hkeep hacc hsz=>?_)
 obtain⟨m,m1,m2⟩:=kW S hacc
 obtain⟨e1,p1⟩:=qB m1
 rw [e1] at m2
 have hS:=gm m2
 have hl:acc.toList.length<=10000:=by rw [m2.length,List.length_map,p1.length_eq];exact h64
 refine wpAny_bind (wpAny_newList ?_ (Nat.le_trans (hl) (by decide)))
 have hoL:(h'.push (seqObj "list" acc.toList.toArray 0)).get? h'.objs.size=some (seqObj "list" acc.toList.toArray 0):=Heap.get?_push_size _ rfl
 refine wpAny_bind (wpAny_holding (wpAny_call_entry slot_list_sort ⟨_,hoL,rfl⟩ entry_list_sort (dn.fN hoL hS hl fun out ss' b1 b2 b3=>⟨_,rfl,?_⟩) (args_list_sort _)))
 obtain⟨e,he⟩:=sortedHeap_at (out:=out) hoL
 refine wpAny_pure ⟨_,rfl,q _ tk d _ _ ss' e (fun b o ho=>?_) hsz he b1 (b2.trans p1) b3⟩
 have h1:=hkeep b o ho
 have hlt:=Heap.lt_size h1
 rw [sortedHeap_old (Nat.ne_of_lt hlt) (by rw [size_push'];exact Nat.lt_succ_of_lt hlt)]
 exact Heap.get?_push_of_some _ h1
end
section
variable {prog:Program} {w:World} {A:Around} {E:Value->Shared->Prop} {s:Shared}
theorem jV {a:Addr} {kvs:List (Key × Value)} {ks:List Int} {Q:Value->Shared->Prop} (hh:A.handled=none) (lo:(a == sysModules)=false) (dd:s.heap.DictOf (ai prog w) a kvs)
  (hk:kvs.map (·.1)=ks.map Sum.inl) (h64:ks.length<=10000)
  (h:∀ (h':Heap) (tk:Nat) (D:Addr) (out:Array Value) (ss':List Int) (e:Nat),(∀ b o,s.heap.get? b=some o->h'.get? b=some o)->s.heap.objs.size<=D->h'.get? D=some { cls:=.type "list",data:=.seq out e } ->
   IntsAre out.toList ss'->ss'.Perm ks->ss'.Pairwise (· <= ·)->Q (.ref D) { s with heap:=h',toks:=tk }) :
  wpAny (model prog w) A (call (.builtin "sorted") [.ref a]) Q E s:=by
 refine Calls.call_function_entry kind_sorted plain_sorted entry_sorted (args_sorted1 _) ?_
 unfold Builtin.«sorted»
 refine wpAny_bind (m:=checkCount "sorted" 1 1 _) (wpAny_pure ?_)
 obtain⟨ep,hat⟩:=dd.dictAt
 have hlk:kvs.length=ks.length:=by have:=congrArg List.length hk;simpa using this
 have hz:kvs.length<=sizeLine:=by rw [hlk];exact Nat.le_trans (h64) (by decide)
 refine wpAny_bind (gather (A:=A.in1) (PySem.W.kdl_dict (knd:=ai prog w) (kvs:=kvs) (ep:=ep) lo) hh hat hz fun h' tk acc hkeep hacc hsz=>?_)
 have hl:acc.toList.length=ks.length:=by rw [Array.length_toList,hacc.1,hlk]
 have hS:IntsAre acc.toList ks:=i9 hl fun j v x h1 h2=>by
  obtain⟨k,y,e1,e2⟩:=hacc.2 j v (by rw [<-Array.getElem?_toList];exact h1)
  have e3:(kvs.map (·.1))[j]? = some k:=by rw [List.getElem?_map,e1];rfl
  rw [hk,List.getElem?_map,h2] at e3
  cases (Option.some.inj e3)
  exact h9 e2
 refine wpAny_bind (wpAny_newList ?_ (by rw [hl];exact Nat.le_trans (h64) (by decide)))
 have hoL:(h'.push (seqObj "list" acc.toList.toArray 0)).get? h'.objs.size=some (seqObj "list" acc.toList.toArray 0):=Heap.get?_push_size _ rfl
 refine wpAny_bind (wpAny_holding (wpAny_call_entry slot_list_sort ⟨_,hoL,rfl⟩ entry_list_sort (dn.fN hoL hS (by rw [hl];exact h64) fun out ss' b1 b2 b3=>⟨_,rfl,?_⟩) (args_list_sort _)))
 obtain⟨e,he⟩:=sortedHeap_at (out:=out) hoL
 refine wpAny_pure ⟨_,rfl,h _ tk _ _ ss' e (fun b o ho=>?_) hsz he b1 b2 b3⟩
 have h1:=hkeep b o ho
 have hlt:=Heap.lt_size h1
 rw [sortedHeap_old (Nat.ne_of_lt hlt) (by rw [size_push'];exact Nat.lt_succ_of_lt hlt)]
 exact Heap.get?_push_of_some _ h1
end
section
variable {X:Cx}
theorem ju:cf X (.builtin "sorted") (fun vs H Q=>∃ (p:Addr) (ns:List Int),vs = [.ref p]/\ax X.K H p (ns.map V.int)/\ns.length<=10000 /\
  ∀ (l:Addr) (ns':List Int),ns'.Perm ns->ns'.Pairwise (· <= ·)->H l=none->Q (.ref l) (upd H l (.lst (ns'.map V.int)))):=by
 intro pins s σ H xs us Q I r h
 obtain⟨p,ns,rfl,hp,h64,q⟩:=h
 obtain⟨u,rfl,ru⟩:=vals1 r
 cases (show u=Value.ref p from ru)
 obtain⟨its,hv,pl,_⟩:=I.list hp
 have hi:=intsAre_of hv
 refine jU pl.isList hi (by have:=hv.length;rw [List.length_map] at this;omega) fun h' D out ns' e hkeep hD he hS hp' hs=>?_
 have hv':Vals (ns'.map V.int) out.toList:=dG hS
 refine⟨.ref D,_,I.laid (t':=s.toks) (o:=.lst (ns'.map V.int)) hkeep hD (show aU X.prog X.w _ h' _ (.lst (ns'.map V.int)) from ⟨?_,out.toList,e,hv',by simpa using he⟩),rfl,q D ns' hp' hs (I.av.fresh hD)⟩
 rw [List.length_map,hp'.length_eq]
 exact Nat.le_trans (h64) (by decide)
theorem ff (hc:X.calm=true):cf X (.builtin "sorted") (fun vs H Q=>∃ (a:Addr) (ss:List Int),vs = [.ref a]/\H a=some (aW X.prog X.w a (ss.map Sum.inl))/\ss.length<=10000 /\
  ∀ (l:Addr) (ss':List Int),ss'.Perm ss->ss'.Pairwise (· <= ·)->H l=none->Q (.ref l) (upd H l (.lst (ss'.map V.int)))):=by
 intro pins s σ H xs us Q I r h
 obtain⟨a,ss,rfl,ha,h64,q⟩:=h
 obtain⟨u,rfl,ru⟩:=vals1 r
 cases (show u=Value.ref a from ru)
 obtain⟨o,es,ep,t,S⟩:=I.jo ha
 refine lA (I.ok.hd hc) S h64 fun h' tk d D out ss' e hkeep hD he hS hp hs=>?_
 have hv:Vals (ss'.map V.int) out.toList:=dG hS
 refine⟨.ref D,_,(I.mS (d:=d)).laid (t':=tk) (o:=.lst (ss'.map V.int)) hkeep hD (show aU X.prog X.w _ h' _ (.lst (ss'.map V.int)) from ⟨?_,out.toList,e,hv,by simpa using he⟩),rfl,q D ss' hp hs (I.av.fresh hD)⟩
 rw [List.length_map,hp.length_eq]
 exact Nat.le_trans (h64) (by decide)
theorem jv (hc:X.calm=true):cf X (.builtin "sorted") (fun vs H Q=>∃ (a:Addr) (kvs:List (Key × V)) (ks:List Int),vs = [.ref a]/\H a=some (.dK kvs)/\kvs.map (·.1)=ks.map Sum.inl/\ks.length<=10000 /\
  ∀ (l:Addr) (ss:List Int),ss.Perm ks->ss.Pairwise (· <= ·)->H l=none->Q (.ref l) (upd H l (.lst (ss.map V.int)))):=by
 intro pins s σ H xs us Q I r h
 obtain⟨a,kvs,ks,rfl,ha,hk,h64,q⟩:=h
 obtain⟨u,rfl,ru⟩:=vals1 r
 cases (show u=Value.ref a from ru)
 obtain⟨z,hd,vs,rel,dd⟩:=nH I.av ha
 refine jV (I.ok.hd hc) hd dd (by rw [<-rel.keys];exact hk) h64 fun h' tk D out ss' e hkeep hD he hS hp hs=>?_
 have hv:Vals (ss'.map V.int) out.toList:=dG hS
 refine⟨.ref D,_,I.laid (t':=tk) (o:=.lst (ss'.map V.int)) hkeep hD (show aU X.prog X.w _ h' _ (.lst (ss'.map V.int)) from ⟨?_,out.toList,e,hv,by simpa using he⟩),rfl,q D ss' hp hs (I.av.fresh hD)⟩
 rw [List.length_map,hp.length_eq]
 exact Nat.le_trans (h64) (by decide)
end
section
variable {X:Cx} {pos:Pos}
end
section
variable {X:Cx} {pos:Pos}
end
section
variable {X:Cx} {pos:Pos}
end
section
variable {X:Cx} {pos:Pos}
end
section
variable {prog:Program} {w:World} {A:Around} {E:Value->Shared->Prop} {s:Shared}
end
section
variable {X:Cx} {pins:List (Addr × Obj)} {σ : List (Option V)} {H:Hp} {s:Shared}
end
section
variable {X:Cx} {K:PySem.W.Frag}
end
section
variable {X:Cx}
end
end L2
namespace LS
open PySem PySem.Spec PyProof.Rows L2
section
variable {prog:Program} {w:World} {A:Around} {E:Value->Shared->Prop} {s:Shared} {I l:Addr} {its:Array Value}
end
section
variable {prog:Program} {w:World} {A:Around} {E:Value->Shared->Prop} {s:Shared} {I l:Addr} {its:Array Value}
end
end LS
namespace L2
open PySem PySem.Spec PyProof.Rows
section
variable {X:Cx}
end
end L2
namespace LS
open PySem PySem.Spec PyProof.Rows L2
section
variable {prog:Program} {w:World} {K:Type} [DecidableEq K] {knd:KeyKind prog w K}
variable {A:Around} {E:Value->Shared->Prop} {s:Shared} {a:Addr} {ks:List K}
end
section
variable {prog:Program} {w:World} {A:Around} {E:Value->Shared->Prop} {s:Shared}
end
end LS
namespace L2
open PySem PySem.Spec PyProof.Rows LS
section
variable {X:Cx}
end
end L2
namespace HT
open PySem PySem.Spec PyProof.Rows
section
variable {prog:Program} {w:World} {A:Around} {E:Value->Shared->Prop} {s:Shared}
end
end HT
namespace L2
open PySem PySem.Spec PyProof.Rows LS
section
variable {X:Cx}
end
section
variable {prog:Program} {w:World} {A:Around} {E:Value->Shared->Prop} {s:Shared}
end
section
variable {X:Cx}
end
theorem iz {H:Hp}:∀ xs:List Str,aH H (xs.map V.str) (xs.map PyData.str)
 | []=>.nil
 | x :: r=>.cons (.str x) (iz r)
section
variable {X:Cx}
theorem sd:cv X (binaryOp .Mult) (fun x y H Q=>∃ t n,x=.str t/\y=.int n/\MulOk t n/\Q (.str (Txt.mul t n)) H):=by
 intro pins s σ H x y v u Q I rx ry h
 obtain⟨t,n,rfl,rfl,hm,q⟩:=h
 obtain⟨k,rfl⟩:=rx
 obtain⟨k',rfl⟩:=ry
 exact SB.mul hm fun t' j=>⟨.str _,H,I.tok _,⟨_,rfl⟩,q⟩
end
theorem qH {c0 c:Nat} {n:Int} (h0:97<=c0/\c0<=122) (hc:97<=c/\c<=122) (h1:1<=n) (h3:n<=4):MulOk ⟨#[c]⟩ n/\(Txt.mul ⟨#[c]⟩ n).length<=4/\cA ((⟨#[c0]⟩:Str)++Txt.mul ⟨#[c]⟩ n):=by
 obtain rfl | rfl | rfl | rfl:n=1\/n=2\/n=3\/n=4:=by omega
 ·refine⟨⟨by decide,fun _ h=>absurd h (by show ¬ true=false;decide),fun _ h=>absurd h (by show ¬ true=false;decide)⟩,by show 1<=4;decide,⟨by show 1<=2;decide,by show 2<=8;decide,fun d hd=>?_⟩⟩
  have:d ∈ [c0,c]:=hd
  simp at this
  omega
 ·refine⟨⟨by decide,fun _ _=>by show ¬ ((1:Nat):Int) > _;decide,fun _ _=>by show Builtin.Str.tooLong (1 * 2)=false;decide⟩,by show 2<=4;decide,⟨by show 1<=3;decide,by show 3<=8;decide,fun d hd=>?_⟩⟩
  have:d ∈ [c0,c,c]:=hd
  simp at this
  omega
 ·refine⟨⟨by decide,fun _ _=>by show ¬ ((1:Nat):Int) > _;decide,fun _ _=>by show Builtin.Str.tooLong (1 * 3)=false;decide⟩,by show 3<=4;decide,⟨by show 1<=4;decide,by show 4<=8;decide,fun d hd=>?_⟩⟩
  have:d ∈ [c0,c,c,c]:=hd
  simp at this
  omega
 ·refine⟨⟨by decide,fun _ _=>by show ¬ ((1:Nat):Int) > _;decide,fun _ _=>by show Builtin.Str.tooLong (1 * 4)=false;decide⟩,by show 4<=4;decide,⟨by show 1<=5;decide,by show 5<=8;decide,fun d hd=>?_⟩⟩
  have:d ∈ [c0,c,c,c,c]:=hd
  simp at this
  omega
section
variable {X:Cx}
end
section
variable {P:Program} {w:World} {K:PySem.W.Frag} {mg:Str->Option Value} {base h:Heap} {x q m:Str} {st:Stmt} {f C:Addr} {fd:FuncData} {k:Nat} {ps:List Str} {sp:Sp}
structure bE (K:PySem.W.Frag) (x:Str) (st:Stmt) (f:Addr) (fd:FuncData):Prop where
 a:PySem.W.nsIn K mainGlobals x=some (some (.ref f))
 F:b0 K x x st f fd
section
variable {oc:Value} {od an:Option Addr} {osl:Array (Option Value)} {kV doc pm cdv ct:Value}
theorem def_mk (a:PySem.W.nsIn K mainGlobals x=some (some (.ref f))) (l:K.lookup f=some ⟨oc,od,.func (PySem.W.fnOf x x (b5 st) (bM st) (ao st) .none kV doc pm an cdv ct),osl⟩)
  (c:PySem.W.codeIn K cdv x=true) (k:PySem.W.keepIn K (.ref f)=true):bE K x st f (PySem.W.fnOf x x (b5 st) (bM st) (ao st) .none kV doc pm an cdv ct):=⟨a,tF l c k⟩
end
def j5 (x q:Str) (st:Stmt) (ps:List Str):Prop:=∀ (kV doc pm:Value) (an:Option Addr) (cdv ct:Value) (us:List Value),us.length=ps.length->bindArgs (PySem.W.fnOf x q (b5 st) (bM st) (ao st) .none kV doc pm an cdv ct) ⟨us,[]⟩=pure (ps.zip us)
theorem bC (P:Program) (w:World) (base:Heap) (X:K.In h) (G:h.Ns mainGlobals mg) (d:bE K x st f fd) (o:bw P w K mg base bW k f fd ps sp) (b:j5 x x st ps):Own P w K mg base x k ps sp:=⟨⟨_,_,o,PySem.W.mg_of X G d.a,d.F.kp,d.F.binds b⟩⟩
section
variable {p1 p2 p3 p4 p5 p6:Str}
theorem ie (h:∀ (kV doc pm:Value) (an:Option Addr) (cdv ct u1:Value),bindArgs (PySem.W.fnOf x q (b5 st) (bM st) (ao st) .none kV doc pm an cdv ct) ⟨[u1],[]⟩=pure [(p1,u1)]):j5 x q st [p1]:=fun _ _ _ _ _ _ us hl=>match us,hl with | [_],_=>h ..
theorem pE (h:∀ (kV doc pm:Value) (an:Option Addr) (cdv ct u1 u2:Value),bindArgs (PySem.W.fnOf x q (b5 st) (bM st) (ao st) .none kV doc pm an cdv ct) ⟨[u1,u2],[]⟩=pure [(p1,u1),(p2,u2)]):j5 x q st [p1,p2]:=fun _ _ _ _ _ _ us hl=>match us,hl with | [_,_],_=>h ..
theorem ub (h:∀ (kV doc pm:Value) (an:Option Addr) (cdv ct u1 u2 u3:Value),bindArgs (PySem.W.fnOf x q (b5 st) (bM st) (ao st) .none kV doc pm an cdv ct) ⟨[u1,u2,u3],[]⟩=pure [(p1,u1),(p2,u2),(p3,u3)]):j5 x q st [p1,p2,p3]:=fun _ _ _ _ _ _ us hl=>match us,hl with | [_,_,_],_=>h ..
end
end
theorem cZ {N ps:List Str} {sc:Scope} (h1:sc.kind=.function:=by rfl) (h2:sc.isCoroutine=false:=by rfl) (h3:sc.isGenerator=false:=by rfl) (h4:N.Nodup:=by decide +kernel) (h5:N.take ps.length=ps:=by rfl) (h6:∀ x ∈ ps,sc.names.lookup x=some .local\/sc.names.lookup x=some .cell:=by decide +kernel) (h7:∀ y ∈ sc.names,y.2 ≠ .free:=by decide +kernel):aN N ps sc:=⟨h1,h2,h3,h4,h5,h6,h7⟩
theorem ar {X:Cx} {x:Str} {k m:Nat} {ps:List Str} {sp:Sp} {e:Expr} {es:List Expr} {t:TA} {p pos:Pos} (o:Own X.prog X.w X.K X.mg X.base x k ps sp) (hr:bY m X.A) (ha:PA X (e :: es) t) (hk:k<=m:=by decide) (hg:Gl X x:=by rfl)
  (hdb:(x == ("__debug__" : Str))=false:=by decide) (he:starEach (e :: es) X.env=(false,eval e X.env) :: starEach es X.env:=by rfl) (hpl:(backTo pos (starEach es X.env)).any (·.1)=false:=by rfl):PE X (.Call (.Name x p) (e :: es) [] pos) (nq sp [] E0 t):=tG o (hr.mono hk) hg ha hdb he hpl
theorem aJ {X:Cx} {i:Nat} {x:Str} {e:Expr} {te:TE} {pos pos':Pos} (hN:X.N.Nodup) (he:PE X e te) (hi:X.N[i]? = some x:=by rfl) (hx:Loc X.env.scope x:=by first | exact Or.inl rfl | exact Or.inr rfl) (hs:swapsWith e (some (.Name x pos')) pos.line X.env=pure false:=by rfl) (hf:X.fn x=true\/X.env.scope.names.lookup x=some .local:=by first | exact .inl rfl | exact .inr rfl | assumption) :
  PS X (.Assign [.Name x pos'] e pos) (m8 te (gH i)):=sO hN hi hx he hs hf
theorem aX {X:Cx} {i:Nat} {x:Str} {pos:Pos} (hN:X.N.Nodup) (hi:X.N[i]? = some x:=by rfl) (hx:Loc X.env.scope x:=by first | exact Or.inl rfl | exact Or.inr rfl) (hf:X.fn x=true\/X.env.scope.names.lookup x=some .local:=by first | exact .inl rfl | exact .inr rfl | assumption):PG X (.Name x pos) (gH i):=rm hN hi hx hf
theorem aC {X:Cx} {a b:Expr} {ta tb:TE} {pos:Pos} {r:R2} (hr:oB X r) (ha:PE X a ta) (hb:PE X b tb) (hs:mD b:=by exact fun _ _=>rfl):PE X (.Subscript a b pos) (ox r ta tb):=uu hr ha hb hs
theorem au {X:Cx} {e1:Expr} {t1:TE} (h1:PE X e1 t1) (s1:starEach [e1] X.env=(false,eval e1 X.env) :: starEach [] X.env:=by rfl):PA X [e1] (fi t1 kq):=(bf h1 cT s1)
theorem aM {X:Cx} {e1 e2:Expr} {t1 t2:TE} (h1:PE X e1 t1) (h2:PE X e2 t2) (s1:starEach [e1,e2] X.env=(false,eval e1 X.env) :: starEach [e2] X.env:=by rfl) (s2:starEach [e2] X.env=(false,eval e2 X.env) :: starEach [] X.env:=by rfl):PA X [e1,e2] (fi t1 (fi t2 kq)):=(bf h1 (bf h2 cT s2) s1)
theorem fw {X:Cx} {e1 e2 e3:Expr} {t1 t2 t3:TE} (h1:PE X e1 t1) (h2:PE X e2 t2) (h3:PE X e3 t3) (s1:starEach [e1,e2,e3] X.env=(false,eval e1 X.env) :: starEach [e2,e3] X.env:=by rfl) (s2:starEach [e2,e3] X.env=(false,eval e2 X.env) :: starEach [e3] X.env:=by rfl) (s3:starEach [e3] X.env=(false,eval e3 X.env) :: starEach [] X.env:=by rfl):PA X [e1,e2,e3] (fi t1 (fi t2 (fi t3 kq))):=(bf h1 (bf h2 (bf h3 cT s3) s2) s1)
theorem fz {ms:List Nat} (h:(ms.map fun k:Nat=>(k:Int)).Pairwise (· <= ·)) (nd:ms.Nodup):ms.Pairwise (· < ·):=by
 have h1:=List.pairwise_map.mp h
 refine (h1.and nd).imp fun {a b} z=>?_
 have z1:=z.1
 have z2:=z.2
 omega
theorem iA:∀ {as bs:List Nat},as.Pairwise (· < ·)->bs.Pairwise (· < ·)->(∀ k,k ∈ as ↔ k ∈ bs)->as=bs
 | [],[],_,_,_=>rfl
 | [],b :: bs,_,_,h=>absurd ((h b).mpr List.mem_cons_self) (by simp)
 | a :: as,[],_,_,h=>absurd ((h a).mp List.mem_cons_self) (by simp)
 | a :: as,b :: bs,ha,hb,h=>by
  obtain⟨a1,a2⟩:=List.pairwise_cons.mp ha
  obtain⟨b1,b2⟩:=List.pairwise_cons.mp hb
  have e:a=b:=by
   rcases List.mem_cons.mp ((h a).mp List.mem_cons_self) with e | e
   ·exact e
   ·rcases List.mem_cons.mp ((h b).mpr List.mem_cons_self) with f | f
    ·exact f.symm
    ·have:=b1 a e
     have:=a1 b f
     omega
  subst e
  rw [iA a2 b2 fun k=>⟨fun hk=>?_,fun hk=>?_⟩]
  ·rcases List.mem_cons.mp ((h k).mp (List.mem_cons_of_mem _ hk)) with e | e
   ·have:=a1 k hk;omega
   ·exact e
  ·rcases List.mem_cons.mp ((h k).mpr (List.mem_cons_of_mem _ hk)) with e | e
   ·have:=b1 k hk;omega
   ·exact e
inductive iB (vs:List V) (H:Hp) (Q:VK) (_:XK):Prop
 | mk (plv:V) (ps:List Piece) (_:vs = [plv]) (_:aI H plv (cW ps)) (_:fb ps) (_:0 < ps.length) (_:ps.length<=400) (_:∀ (t:Addr) (ks:List Nat) (H':Hp),H' t=some (.tup (vN ks))->(∀ k,k ∈ ks ↔ dN ps k)->(∀ k ∈ ks,k < ps.length)->ks.Pairwise (· < ·)->ah H H'->Q (.ref t) H')
inductive lB (vs:List V) (H:Hp) (Q:VK) (_:XK):Prop
 | mk (plv:V) (ps:List Piece) (_:vs = [plv]) (_:aI H plv (cW ps)) (_:fb ps) (_:0 < ps.length) (_:ps.length<=400) (_:∀ (t:Addr) (ks:List Nat) (H':Hp),H' t=some (.tup (vN ks))->(∀ k,k ∈ ks ↔ qZ ps k)->ks.Pairwise (· < ·)->ah H H'->Q (.ref t) H')
inductive gu (vs:List V) (H:Hp) (Q:VK) (_:XK):Prop
 | mk (plv:V) (ps:List Piece) (_:vs = [plv]) (_:aI H plv (cW ps)) (_:fb ps) (_:0 < ps.length) (_:ps.length<=400) (_:∀ (t:Addr) (ks:List Nat) (H':Hp),H' t=some (.lst (vN ks))->(∀ k,k ∈ ks ↔ dN ps k)->(∀ k ∈ ks,k < ps.length)->ks.Pairwise (· < ·)->ah H H'->Q (.ref t) H')
inductive jS (vs:List V) (H:Hp) (Q:VK) (_:XK):Prop
 | mk (plv:V) (ps:List Piece) (_:vs = [plv]) (_:aI H plv (cW ps)) (_:fb ps) (_:0 < ps.length) (_:ps.length<=400) (_:∀ (t:Addr) (ks:List Nat) (H':Hp),H' t=some (.lst (vN ks))->(∀ k,k ∈ ks ↔ qZ ps k)->ks.Pairwise (· < ·)->ah H H'->Q (.ref t) H')
theorem qI {c0 c:Nat} {n:Int} (h0:97<=c0/\c0<=122) (hc:97<=c/\c<=122) (h1:0<=n) (h3:n<=3):MulOk ⟨#[c]⟩ n/\(Txt.mul ⟨#[c]⟩ n).length<=4/\cA ((⟨#[c0]⟩:Str)++Txt.mul ⟨#[c]⟩ n):=by
 by_cases hz:n=0
 ·subst hz
  refine⟨⟨by decide,fun h=>absurd h (by decide),fun h=>absurd h (by decide)⟩,by show 0<=4;decide,⟨by show 1<=1;decide,by show 1<=8;decide,fun d hd=>?_⟩⟩
  have:d ∈ [c0]:=hd
  simp at this
  omega
 ·exact qH h0 hc (by omega) (by omega)
inductive mX (vs:List V) (H:Hp) (Q:VK) (_:XK):Prop
 | mk (b:Addr) (c:Nat) (_:vs = [.ref b,.int c]) (_:bx H b) (_:0 < c) (_:c<=1000) (_:∀ v xs ps H',aI H' v (cW ps)->ps.length=c->cE xs 4 ps->((∀ x ∈ xs,cA x)/\xs.length<=60)->bx H' b->Fix b H H'->Q v H')
def pF (ns:List Nat):PyData:=.tuple (ns.map fun k:Nat=>PyData.int k)
theorem fA {H:Hp}:∀ ns:List Nat,aH H (vN ns) (ns.map fun k:Nat=>PyData.int k)
 | []=>.nil
 | n :: ns=>.cons (.int _) (fA ns)
theorem jw (ns:List Nat):(pF ns).canLay0=true:=jr _ fun d hd=>by obtain⟨x,_,rfl⟩:=List.mem_map.mp hd;rfl
theorem mY {ds:List PyData} {m:Nat} (h:∀ d ∈ ds,d.depth<=m) (hm:m<=50):(PyData.tuple ds).depth<=60:=by
 have:=mV ds h
 show PyData.depthAll ds+1<=60
 omega
theorem jx (ns:List Nat):(pF ns).depth<=60:=mY (m:=1) (fun d hd=>by obtain⟨x,_,rfl⟩:=List.mem_map.mp hd;show 0<=1;decide) (by decide)
theorem lC {H:Hp} {x y:V} {d:PyData} {Q:VK} (hx:aI H x d) (hy:aI H y d) (l:d.canLay0=true) (p:d.depth<=60) (q:Q (.bl false) H):nE true x y H Q :=
 ⟨d,d,hx,hy,l,l,(by omega),(by rw [PySem.SeqAt.eqv_refl _ l];exact q)⟩
theorem lF {H:Hp} {x y:V} {d:PyData} {Q:VK} (hx:aI H x d) (hy:aI H y d) (l:d.canLay0=true) (p:d.depth<=60) (q:Q (.bl true) H):nE false x y H Q :=
 ⟨d,d,hx,hy,l,l,(by omega),(by rw [PySem.SeqAt.eqv_refl _ l];exact q)⟩
end L2
namespace My
open PySem PySem.Spec PyProof.Rows L2
def top (i:Nat):Stmt:=PySem.Challenge.pw_ledpast_k05_names_ways_heads.main.body.getD i (.Pass ⟨0,0,0,0⟩)
structure Bl (mg:Str->Option Value):Prop where
 len:mg "len" = none
 zip:mg "zip" = none
 tuple:mg "tuple" = none
 sorted:mg "sorted" = none
 set:mg "set" = none
 min:mg "min" = none
 range:mg "range" = none
 list:mg "list" = none
 int:mg "int" = none
abbrev de:Stmt:=top 3
theorem iC:aN ["thing", "kinds", "wanted"] ["thing", "kinds", "wanted"] (ao de):=cZ
abbrev gx:Stmt:=top 5
theorem nV:aN ["end"] ["end"] (ao gx):=cZ
abbrev fB:Stmt:=top 4
theorem cG:aN ["plan", "names", "deeds", "end", "deed"] ["plan"] (ao fB):=cZ
abbrev gy:Stmt:=top 6
theorem df:aN ["plan", "found", "waiting", "at", "way"] ["plan"] (ao gy):=cZ
abbrev jy:Stmt:=top 7
theorem fC:aN ["plan", "found", "at", "way"] ["plan"] (ao jy):=cZ
abbrev gA:Stmt:=top 9
theorem fD:aN ["script", "k", "cell"] ["script", "k"] (ao gA):=cZ
abbrev fE:Stmt:=top 10
theorem ig:aN ["bag", "many", "found"] ["bag", "many"] (ao fE):=cZ
abbrev eS:Stmt:=top 11
theorem bH:aN ["bag", "letters", "many", "base", "at", "names", "k", "name"] ["bag"] (ao eS):=cZ
abbrev eD:Stmt:=top 12
theorem jW:aN ["bag"] ["bag"] (ao eD):=cZ
abbrev fF:Stmt:=top 13
theorem eT:aN ["bag", "names", "word", "name"] ["bag", "names"] (ao fF):=cZ
abbrev gB:Stmt:=top 14
theorem dZ:aN ["bag", "names", "count", "way", "word", "name"] ["bag", "names", "count"] (ao gB):=cZ
abbrev fG:Stmt:=top 15
theorem cq:aN ["bag", "count", "most", "names", "pieces", "k", "many", "end"] ["bag", "count", "most"] (ao fG):=cZ
abbrev eU:Stmt:=top 16
theorem lG:aN ["bag", "most"] ["bag", "most"] (ao eU):=cZ
abbrev fH:Stmt:=top 18
theorem lT:aN ["end"] ["end"] (ao fH):=cZ
abbrev dg:Stmt:=top 17
theorem bQ:aN ["plan", "names", "deeds", "end", "deed"] ["plan"] (ao dg):=cZ
abbrev dP:Stmt:=top 19
theorem cc:aN ["plan", "found", "at", "there"] ["plan"] (ao dP):=cZ
abbrev eV:Stmt:=top 20
theorem dh:aN ["plan", "found", "piece", "there"] ["plan"] (ao eV):=cZ
abbrev di:Stmt:=top 21
theorem bt:aN ["bag", "count", "letters", "shift", "names", "pieces", "k", "deeds"] ["bag", "count"] (ao di):=cZ
abbrev gR:Stmt:=top 22
theorem dm:aN ["script", "bag", "wide", "count", "plan", "deeds", "end"] ["script"] (ao gR):=cZ
section
variable {P:Program} {w:World} {K:PySem.W.Frag} {mg:Str->Option Value} {base:Heap}
theorem iD {f:Addr} {fd:FuncData} (F:b0 K "parts_of_kind" "parts_of_kind" de f fd) (Z:Bl mg)  : bw P w K mg base bW 1 f fd ["thing", "kinds", "wanted"] (jn K):=by
 refine F.ok (k:=0) iC (fun vs H Q E h=>?_) (fun cdv A outer s H vs Q E hr h=>?_)
 ·obtain⟨t,s,v0,xs,ks,w,rfl,_⟩:=h
  rfl
 ·obtain⟨t,s,v0,xs,ks,w,rfl,ht,hs,hl,q⟩:=h
  refine⟨_,(af (aL (fk ["part", "kind"] ["wanted"] [2] rfl (tW rfl Z.zip (aM (ku mM (pv 0) (mB aa) mw) (pv 1))) rfl (by decide +kernel) (by decide +kernel) (by decide +kernel) ⟨⟨rfl,.inl rfl,rfl⟩,True.intro⟩ (fun _ _ _ _=>(rH (K:=K) (n:=2) rfl (iL (n:=2) rfl (cx (aX (i:=0) (show ((["part", "kind"]:List Str)++(["wanted"]:List Str)).Nodup by decide +kernel) (hf:=Or.inr rfl)) (cx (aX (i:=1) (show ((["part", "kind"]:List Str)++(["wanted"]:List Str)).Nodup by decide +kernel) (hf:=Or.inr rfl)) gI))))) (fun _ _ _ _=>(rG (aR cS (pv 1) (pv 2) (ba _)))) (fun _ _ _ _=>(pv 0))))),?_⟩
  refine⟨_,rfl,_,rfl,t,_,rfl,ay.of ht,fun hw=>?_,fun _ p np=>?_⟩
  ·exfalso
   obtain⟨h1,_⟩:=hw
   simp [HT.aO] at h1
  ·have ec:ip (v0 :: xs) (some 1) none=xs:=by simp [ip,HT.aO]
   rw [ec]
   have sp:=ah.new (o:=.tup xs) np
   refine⟨_,rfl,p,s,rfl,⟨_,ay.of U⟩,⟨_,hs.same sp⟩,fun acc na=>?_⟩
   refine tX (K:=K) (a:=p) (b:=s) (xs:=xs) (ys:=ks.map V.str) (fun i zs τ H'=>∃ (c1 c2:Option V),τ = [c1,c2,some (.str w)]/\zs=eI w xs ks i/\H' acc=some (.lst zs)/\H' p=some (.tup xs)/\ah H H') ?_ ?_ ?_ ?_
   ·exact⟨none,none,rfl,rfl,U,ah.new na _ _ U,sp.trans (ah.new na)⟩
   ·rintro i zs τ H4 hi ⟨c1,c2,rfl,rfl,ha,hp4,s4⟩
    exact⟨ay.of hp4,hs.same s4,ha,nI (by have:=oX (w:=w) (xs:=xs) (ks:=ks) (i:=i);omega)⟩
   ·rintro i x y zs τ H4 u hx hy hu ⟨c1,c2,rfl,rfl,ha,hp4,s4⟩
    obtain⟨k,rfl,hk⟩:∃ k,y=V.str k/\ks[i]? = some k:=by
     rw [List.getElem?_map] at hy
     cases e:ks[i]? with
     | none=>rw [e] at hy;cases hy
     | some k=>rw [e] at hy;exact⟨k,(Option.some.inj hy).symm,rfl⟩
    have su:=ah.new (o:=.tup [x,.str k]) hu
    refine⟨u,_,rfl,ay.of U,rfl,_,_,rfl,_,_,rfl,rfl,?_⟩
    refine⟨_,rfl,_,rfl,rfl,_,rfl,?_⟩
    have hn:=nJ (w:=w) hx hk
    by_cases hkw:k=w
    ·rw [if_pos hkw] at hn
     refine eG (decide_eq_true (congrArg V.str hkw)) ?_
     refine⟨_,rfl,su _ _ ha,_,_,rfl,hn.symm,U,?_,?_⟩
     ·rw [ae (bU hp4 ha (by intro z;cases z))]
      exact su _ _ hp4
     ·exact (s4.trans su).put (sp.free na)
    ·rw [if_neg hkw,List.append_nil] at hn
     refine cw (decide_eq_false fun z=>hkw (V.str.inj z)) ?_
     exact⟨_,_,rfl,hn.symm,su _ _ ha,su _ _ hp4,s4.trans su⟩
   ·rintro zs τ H4 ⟨c1,c2,rfl,rfl,ha,hp4,s4⟩
    rw [oW] at ha
    exact q acc H4 ha s4
theorem nW {f:Addr} {fd:FuncData} (F:b0 K "ways_on" "ways_on" gx f fd) (Z:Bl mg) {aE s0 s1 s2 s3:Addr} (GE:kP K mg aE s0 s1 s2 s3) (O_parts_of_kind:Own P w K mg base "parts_of_kind" 1 ["thing", "kinds", "wanted"] (jn K)):bw P w K mg base bW 3 f fd ["end"] i0:=by
 refine F.ok (k:=2) nV (fun vs H Q E h=>?_) (fun cdv A outer s H vs Q E hr h=>?_)
 ·obtain⟨ea,e,rfl,_⟩:=h
  rfl
 ·obtain⟨ea,e,rfl,he,q⟩:=h
  refine⟨_,(af (aL (aT aP rfl Z.tuple bK (au (ar O_parts_of_kind hr (fw (pv 0) (jm GE.tab rfl (aC bF (pv 0) aa) (fun _ _=>rfl)) aZ)))))),?_⟩
  obtain⟨xs,ev,hl,hp⟩:=oY e
  rw [ev] at he
  obtain⟨s,hs,ks⟩:=GE.at_ e
  refine⟨_,rfl,_,rfl,ea,_,0,_,rfl,rfl,ay.of he,gZ,_,s,rfl,hs,ea,s,_,xs,kE e, "piece",rfl,he,.inr ks,hl,fun l H1 hl1 s1=>?_⟩
  rw [hp] at hl1
  exact⟨l,_,rfl,.inl ⟨ax.of hl1,fun t ht=>q t _ U (s1.trans (ah.new ht))⟩⟩
theorem lU {f:Addr} {fd:FuncData} (F:b0 K "names_of" "names_of" fB f fd) (Z:Bl mg) {aD d0 d1 d2 d3 d4:Addr} (GD:j4 K mg aD d0 d1 d2 d3 d4) {aE s0 s1 s2 s3:Addr} (GE:kP K mg aE s0 s1 s2 s3) (O_parts_of_kind:Own P w K mg base "parts_of_kind" 1 ["thing", "kinds", "wanted"] (jn K)):bw P w K mg base bW 3 f fd ["plan"] jP:=by
 refine F.ok (k:=2) cG (fun vs H Q E h=>?_) (fun cdv A outer s H vs Q E hr h=>?_)
 ·obtain⟨plv,ps,xs,m,rfl,_⟩:=h
  rfl
 ·obtain⟨plv,ps,xs,m,rfl,hp,pok,hx64,hal,q⟩:=h
  refine⟨_,(ab (aJ (i:=1) cG.nd (b4 cT))
   (ab (bV PassesOwn.never rfl (dD (pv 0)) (iL rfl (cx (aX (i:=2) cG.nd) (cx (aX (i:=3) cG.nd) gI)))
   (ab (bV PassesOwn.never rfl (dD (pv 2)) (aX (i:=4) cG.nd)
   (af (cC (dW PySem.F.plainAttrs_list PySem.F.slot_list_extend PySem.F.type_list_extend jK (pv 1) (au (ar O_parts_of_kind hr (fw (pv 4) (jm GD.tab rfl (aC bF (pv 4) aa) (fun _ _=>rfl)) aZ)))))))
   (af (cC (dW PySem.F.plainAttrs_list PySem.F.slot_list_extend PySem.F.type_list_extend jK (pv 1) (au (ar O_parts_of_kind hr (fw (pv 3) (jm GE.tab rfl (aC bF (pv 3) aa) (fun _ _=>rfl)) aZ))))))))
   (af (aL (aT aP rfl Z.tuple bK (au (br (jT rfl) rfl Z.sorted cO (au (aT (ph rfl) rfl Z.set o9 (au (pv 1))))))))))),?_⟩
  obtain⟨pp,vs,rfl,e1,r⟩:=aI.bJ hp
  have hl:=r.len
  refine⟨(by show 0<=sizeLine;decide),fun nm nn=>?_⟩
  have s0:=ah.new (o:=.lst []) nn
  have big:∀ (i:Nat) (ys:List Str),ys.length<=4000->(ys.map V.str).length<=sizeLine:=fun i ys h=>by rw [List.length_map];exact Nat.le_trans h (by decide)
  refine⟨_,rfl,pp,rfl,⟨_,ay.of (s0 _ _ e1)⟩,cM (K:=K) (a:=pp) (xs:=vs) (fun i σ H'=>∃ (u1 u2 u3:Option V),σ = [some (.ref pp),some (.ref nm),u1,u2,u3]/\H' nm=some (.lst ((aw (ps.take i)).map V.str))/\ah H H') ?_ ?_ ?_ ?_⟩
  ·exact⟨_,_,_,rfl,U,s0⟩
  ·rintro i σ H1 hi ⟨u1,u2,u3,rfl,h1,s1⟩
   exact ay.of (s1 _ _ e1)
  ·rintro i x σ H1 hi ⟨u1,u2,u3,rfl,h1,s1⟩
   have hlt:i < ps.length:=by
    have:=(List.getElem?_eq_some_iff.mp hi).1
    rw [hl,List.length_map] at this
    exact this
   have hpi:ps[i]? = some ps[i]:=by simp [hlt]
   generalize ps[i] = pe at hpi
   obtain⟨ds,e⟩:=pe
   have hnext:=eJ (f:=pNames) hpi
   have hsz:(aw (ps.take (i+1))).length<=4000:=Nat.le_trans (fJ (f:=pNames) (i+1)) hal
   have hsz':(aw (ps.take i)).length+((ds.flatMap aQ).length+(cF e).length)<=4000:=by
    have z:=congrArg List.length hnext
    unfold aw at hsz ⊢
    rw [z] at hsz
    simp only [List.length_append,pNames] at hsz
    omega
   obtain⟨p',xs',pc,da,ea,ws,ep,e1',el',hx',e2,e3,r3,e4⟩:=cK hp hpi
   cases ep
   rw [e1] at e1'
   cases e1'
   rw [hi] at hx'
   cases hx'
   refine⟨pc,_,rfl,ay.of (s1 _ _ e2),rfl,_,_,rfl,_,_,rfl,rfl,?_⟩
   refine⟨_,rfl,da,rfl,⟨_,ay.of (s1 _ _ e3)⟩,cM (K:=K) (a:=da) (xs:=ws) (fun j σ H'=>∃ (u3:Option V),σ = [some (.ref pp),some (.ref nm),some (.ref da),some (.ref ea),u3]/\H' nm=some (.lst ((aw (ps.take i)++(ds.take j).flatMap aQ).map V.str))/\ah H H') ?_ ?_ ?_ ?_⟩
   ·exact⟨_,rfl,by simpa using h1,s1⟩
   ·rintro j σ H2 hj ⟨u3',rfl,h2,s2⟩
    exact ay.of (s2 _ _ e3)
   ·rintro j y σ H2 hj ⟨u3',rfl,h2,s2⟩
    have hjl:j < ds.length:=by
     have:=(List.getElem?_eq_some_iff.mp hj).1
     rw [r3.len,List.length_map] at this
     exact this
    have hdj:ds[j]? = some ds[j]:=by simp [hjl]
    generalize ds[j] = dd at hdj
    obtain⟨v,hv,rd⟩:=r3.get (i:=j) (d:=cD dd) (by rw [List.getElem?_map,hdj];rfl)
    rw [hj] at hv
    cases hv
    obtain⟨dp,rfl,hdp⟩:=mL rd
    have hdp2:=s2 _ _ hdp
    obtain⟨zs,ez,hzl,hpk⟩:=nQ dd
    rw [ez] at hdp2
    obtain⟨s,hs,ks⟩:=GD.at_ dd
    have hnj:=eJ (f:=aQ) hdj
    have hsj:((ds.take (j+1)).flatMap aQ).length<=(ds.flatMap aQ).length:=fJ (f:=aQ) (j+1)
    refine b9 ?_
    refine⟨_,rfl,.inl ⟨rfl,_,ax.of h2⟩,_,rfl,_,rfl,dp,_,0,_,rfl,rfl,ay.of hdp2,gZ,_,s,rfl,hs,dp,s,_,zs,kD dd, "name",rfl,hdp2,.inr ks,hzl,fun l H3 hl3 s3=>?_⟩
    rw [hpk] at hl3
    have h3:=s3 _ _ h2
    refine⟨nm,l,_,_,rfl,rfl,h3,hl3,?_,?_⟩
    ·rw [List.length_map,List.length_map,List.length_append]
     rw [hnj,List.length_append] at hsj
     exact Nat.le_trans (show _<=4000 by omega) (by decide)
    ·refine⟨_,rfl,?_,(s2.trans s3).put nn⟩
     rw [U,hnj,<-List.append_assoc];simp only [List.map_append]
   ·rintro σ H2 ⟨u3',rfl,h2,s2⟩
    rw [show ws.length=ds.length by rw [r3.len,List.length_map],List.take_length] at h2
    have e42:=s2 _ _ e4
    obtain⟨zs,ez,hzl,hpk⟩:=nR e
    rw [ez] at e42
    obtain⟨s,hs,ks⟩:=GE.at_ e
    refine⟨_,rfl,.inl ⟨rfl,_,ax.of h2⟩,_,rfl,_,rfl,ea,_,0,_,rfl,rfl,ay.of e42,gZ,_,s,rfl,hs,ea,s,_,zs,kE e, "name",rfl,e42,.inr ks,hzl,fun l H3 hl3 s3=>?_⟩
    rw [hpk] at hl3
    have h3:=s3 _ _ h2
    refine⟨nm,l,_,_,rfl,rfl,h3,hl3,?_,?_⟩
    ·rw [List.length_map,List.length_map,List.length_append]
     exact Nat.le_trans (show _<=4000 by omega) (by decide)
    ·refine⟨_,_,_,rfl,?_,(s2.trans s3).put nn⟩
     rw [U,<-List.map_append]
     unfold aw at hnext ⊢
     rw [hnext]
     simp only [pNames,List.append_assoc]
  ·rintro σ H1 ⟨u1,u2,u3,rfl,h1,s1⟩
   rw [show vs.length=ps.length by rw [hl,List.length_map],List.take_length] at h1
   have hk:ax K H1 nm (((aw ps).map (Sum.inr:Str->Key)).map kV):=by rw [rS];exact ax.of h1
   refine⟨_,rfl,nm,(aw ps).map Sum.inr,rfl,hk,(by rw [List.length_map];show _+1 < 4096;omega),fun sa hsa=>?_⟩
   have hf:=lh pok
   refine⟨sa,LS.aV (aw ps),rfl,(by rw [U,nS]),(by omega),fun l ss hperm hsort hn=>?_⟩
   have s2:=ah.new (o:=aW P w sa (LS.aV ((aw ps).map (Sum.inr:Str->Key)))) hsa
   refine⟨l,_,rfl,.inl ⟨ax.of U,fun t ht=>?_⟩⟩
   exact q t ss _ U hperm hsort (by rw [hperm.length_eq];omega) (((s1.trans s2).trans (ah.new hn)).trans (ah.new ht))
theorem nX {f:Addr} {fd:FuncData} (F:b0 K "reached" "reached" gy f fd) (Z:Bl mg) (O_ways_on:Own P w K mg base "ways_on" 3 ["end"] i0):bw P w K mg base bW 4 f fd ["plan"] iB:=by
  refine b0.vD F (k:=3) df (fun vs H Q E h=>?_) (fun cdv A outer s H vs Q E hcd hr h=>?_)
  · obtain⟨plv,ps,rfl,_⟩:=h
    rfl
  · obtain⟨plv,ps,rfl,hp,hin,hn0,hn,q⟩:=h
    refine⟨_,(ab (aJ (i:=1) df.nd (r9 hcd aa))
      (ab (aJ (i:=2) df.nd (b4 (au aa)))
      (ab (kj PassesOwn.never (pX (pv 2) (fun _=>rfl))
      (ab (aJ (i:=3) df.nd (tD PySem.F.plainAttrs_list PySem.F.slot_list_pop PySem.F.type_list_pop tE (pv 2)))
      (af (bV PassesOwn.never rfl (dD (ar O_ways_on hr (au (aC bF (aC bF (pv 0) (pv 3)) aa)))) (aX (i:=4) df.nd)
      (af (bL (aR pA (pv 4) (pv 1) (by with_unfolding_all rfl))
      (ab (cC (pB PySem.F.slot_set_add PySem.F.type_set_add mU (pv 1) (au (pv 4))))
      (af (cC (dW PySem.F.plainAttrs_list PySem.F.slot_list_append PySem.F.type_list_append cN (pv 2) (au (pv 4))))))
      bb))))))
      (af (aL (aT aP rfl Z.tuple bK (au (br (ff rfl) rfl Z.sorted cO (au (pv 1)))))))))),?_⟩
    obtain⟨pp,vs,rfl,e1,r1⟩:=aI.bJ hp
    have hvl:=r1.len
    rw [List.length_map] at hvl
    refine fun fs nfs=>?_
    refine⟨U,Sum.inl (0:Int),rfl,?_⟩
    try change (_:Hp->Prop) (upd (upd H fs (aW P w fs [])) fs (aW P w fs [Sum.inl (0:Int)]))
    rw [rf]
    have s1:=ah.new (o:=aW P w fs [Sum.inl (0:Int)]) nfs
    have hf1:(upd H fs (aW P w fs [Sum.inl (0:Int)])) fs=some (aW P w fs (kI [0])):=U
    generalize (upd H fs (aW P w fs [Sum.inl (0:Int)]))=H1 at s1 hf1
    refine⟨tJ,fun wl nwl=>?_⟩
    have s2:=ah.new (o:=.lst [.int 0]) nwl
    have hf2:=s2 _ _ hf1
    have hw2:(upd H1 wl (.lst [.int 0])) wl=some (.lst (vN [0])):=U
    have nfw:fs ≠ wl:=aF hf1 nwl
    have nwH:H wl=none:=s1.free nwl
    have s12:=s1.trans s2
    generalize (upd H1 wl (.lst [.int 0]))=H2 at s2 hf2 hw2 s12
    refine⟨fun m σ H'=>∃ (ks ws:List Nat) (u1 u2:Option V),σ = [some (.ref pp),some (.ref fs),some (.ref wl),u1,u2]/\H' fs=some (aW P w fs (kI ks))/\H' wl=some (.lst (vN ws))/\nU ps ks ws/\m=2 * (ps.length - ks.length)+ws.length/\ws.length<=ks.length/\ah H H',⟨_,[0],[0],_,_,rfl,hf2,hw2,⟨by simp,fun k hk=>by rw [List.mem_singleton.mp hk];exact hn0,fun k hk=>by rw [List.mem_singleton.mp hk];exact .zero,by simp,fun k hk=>hk,fun k hk=>.inl hk⟩,rfl,Nat.le_refl _,s12⟩,?_⟩
    rintro m σ H3 ⟨ks,ws,u1,u2,rfl,hf3,hw3,sk,hm,hwk,s3⟩
    have hkn:=bX sk.nd sk.lt
    refine⟨_,rfl,!(vN ws).isEmpty,.inl ⟨_,ax.of hw3,rfl⟩,?_⟩
    rcases (show ws = []\/∃ ws' at_,ws=ws' ++ [at_] from (List.eq_nil_or_concat ws).imp id fun ⟨a,b,h⟩=>⟨a,b,by rw [h,List.concat_eq_append]⟩) with rfl | ⟨ws',at_,rfl⟩
    · refine cw rfl ?_
      refine⟨_,rfl,fs,ks.map (fun k:Nat=>(k:Int)),rfl,(by rw [hf3,jt];rfl),(by rw [List.length_map];omega),fun l ss hperm hsrt nl=>?_⟩
      obtain⟨ms,rfl,hms⟩:=cY hperm
      refine⟨l,_,rfl,.inl ⟨ax.of U,?_⟩⟩
      rw [<-gs]
      intro t nt
      refine q t ms _ U (fun k=>(hms.mem_iff).trans (sk.all k)) (fun k hk=>sk.lt k (hms.mem_iff.mp hk)) (fz hsrt (hms.nodup_iff.mpr sk.nd)) ((s3.trans (ah.new nl)).trans (ah.new nt))
    · have hwl:(ws' ++ [at_]).length=ws'.length+1:=by rw [List.length_append];rfl
      have hev:vN (ws' ++ [at_])=vN ws' ++ [V.int (at_:Nat)]:=by show (ws' ++ [at_]).map _=_;rw [List.map_append];rfl
      refine eG (by rw [hev];cases vN ws' <;> rfl) ?_
      have hak:at_ ∈ ks:=sk.sub at_ (List.mem_append_right _ (List.mem_singleton.mpr rfl))
      have hat:=sk.lt at_ hak
      have hps:ps[at_]? = some ps[at_]:=by simp [hat]
      generalize ps[at_] = pce at hps
      obtain⟨ds,e⟩:=pce
      obtain⟨p',xs',pc,da,ea,wsv,ep,e1',el',hx',e2,e3,r3,e4⟩:=cK hp hps
      cases ep
      rw [e1] at e1'
      cases e1'
      refine⟨fun σ' H'=>∃ (ks' ws2:List Nat) (u1 u2:Option V),σ' = [some (.ref pp),some (.ref fs),some (.ref wl),u1,u2]/\H' fs=some (aW P w fs (kI ks'))/\H' wl=some (.lst (vN ws2))/\nU ps ks' ws2/\2 * (ps.length - ks'.length)+ws2.length < m/\ws2.length<=ks'.length/\ah H H',fun σ' H' ⟨ks',ws2,u1,u2,h1,h2,h3,h4,h5,h6,h7⟩=>⟨_,h5,ks',ws2,u1,u2,h1,h2,h3,h4,rfl,h6,h7⟩,?_⟩
      refine⟨_,rfl,.inl ⟨rfl,_,ax.of hw3⟩,wl,_,.int (at_:Nat),rfl,rfl,hw3,(by rw [hev];simp),?_⟩
      have hdl:(vN (ws' ++ [at_])).dropLast=vN ws':=by rw [hev,List.dropLast_concat]
      rw [hdl]
      have hw4:(upd H3 wl (.lst (vN ws'))) wl=some (.lst (vN ws')):=U
      have hf4:(upd H3 wl (.lst (vN ws'))) fs=some (aW P w fs (kI ks)):=by rw [ae nfw];exact hf3
      have s4:ah H (upd H3 wl (.lst (vN ws'))):=s3.put nwH
      generalize (upd H3 wl (.lst (vN ws')))=H4 at hw4 hf4 s4
      refine⟨_,rfl,_,rfl,pp,_,_,_,rfl,rfl,ay.of (s4 _ _ e1),bg hx',pc,_,1,_,rfl,rfl,ay.of (s4 _ _ e2),fI,ea,e,rfl,s4 _ _ e4,fun wt H5 hwt s5=>?_⟩
      refine⟨wt,rfl,⟨_,ay.of hwt⟩,cM (K:=K) (a:=wt) (xs:=vN (aB e)) (fun i σ H'=>∃ (ks' add:List Nat) (u2:Option V),σ = [some (.ref pp),some (.ref fs),some (.ref wl),some (.int (at_:Nat)),u2]/\H' fs=some (aW P w fs (kI ks'))/\H' wl=some (.lst (vN (ws' ++ add)))/\ks' = ks++add/\ks'.Nodup/\(∀ k ∈ ks',k < ps.length)/\(∀ k ∈ add,dN ps k)/\(∀ k ∈ (aB e).take i,k ∈ ks')/\(∀ c o,H5 c=some o->c ≠ fs->c ≠ wl->H' c=some o)) ?_ ?_ ?_ ?_⟩
      · exact⟨ks,[],_,rfl,s5 _ _ hf4,by rw [List.append_nil];exact s5 _ _ hw4,by rw [List.append_nil],sk.nd,sk.lt,(fun _ h=>nomatch h),(fun _ h=>by simp at h),fun c o h _ _=>h⟩
      · rintro i σ H6 hi ⟨ks',add,u2,rfl,h1,h2,rfl,h4,h5,h6,h7,h8⟩
        exact ay.of (h8 _ _ hwt (bU hwt (s5 _ _ hf4) (by intro z;cases z)) (bU hwt (s5 _ _ hw4) (by intro z;cases z)))
      · rintro i y σ H6 hi ⟨ks',add,u2,rfl,h1,h2,rfl,h4,h5,h6,h7,h8⟩
        obtain⟨k0,hk0,rfl⟩:∃ k,(aB e)[i]? = some k/\y=V.int (k:Nat):=by
          rw [List.getElem?_map] at hi
          cases z:(aB e)[i]? with
          | none=>rw [z] at hi;cases hi
          | some k=>rw [z] at hi;exact⟨k,rfl,(Option.some.inj hi).symm⟩
        have hk0m:=List.mem_of_getElem? hk0
        have hk0b:=gQ hin hps k0 hk0m
        have htk:(aB e).take (i+1)=(aB e).take i ++ [k0]:=by rw [List.take_add_one,hk0];rfl
        refine b9 ?_
        refine⟨_,rfl,_,rfl,fs,_,Sum.inl (k0:Int),rfl,h1,rfl,fun b hb=>⟨_,rfl,?_⟩⟩
        rw [ll] at hb
        by_cases hm0:k0 ∈ ks++add
        · refine cw (by rw [hb.mpr hm0];rfl) ?_
          refine⟨ks++add,add,_,rfl,h1,h2,rfl,h4,h5,h6,fun k hk=>?_,h8⟩
          rw [htk] at hk
          rcases List.mem_append.mp hk with hk | hk
          · exact h7 k hk
          · rw [List.mem_singleton.mp hk];exact hm0
        · refine eG (by rw [Bool.eq_false_iff.mpr fun z=>hm0 (hb.mp z)];rfl) ?_
          have hfew:=bX h4 h5
          refine⟨_,rfl,⟨fs,_,rfl,h1⟩,_,rfl,fs,_,Sum.inl (k0:Int),rfl,rfl,h1,(by rw [List.length_map];exact Nat.lt_of_le_of_lt (show (ks++add).length+1<=1002 by omega) (by decide)),?_⟩
          rw [lq,show LS.putIn (ks++add) k0=ks++(add ++ [k0]) by unfold LS.putIn;rw [if_neg hm0,List.append_assoc]]
          try change (_:Hp->Prop) (upd H6 fs (aW P w fs (kI (ks++(add ++ [k0])))))
          have h27:(upd H6 fs (aW P w fs (kI (ks++(add ++ [k0]))))) wl=some (.lst (vN (ws' ++ add))):=by rw [ae nfw.symm];exact h2
          have hal:(ws' ++ add).length<=900:=by
            rw [List.length_append] at hfew ⊢
            omega
          refine⟨_,rfl,.inl ⟨rfl,_,ax.of h27⟩,_,rfl,wl,_,_,rfl,rfl,h27,bA (by rw [List.length_map];omega),?_⟩
          refine⟨_,add ++ [k0],_,rfl,by rw [ae nfw,U],?_,rfl,?_,?_,?_,?_,fun c o h c1 c2=>by rw [ae c2,ae c1];exact h8 c o h c1 c2⟩
          · rw [U]
            show _=some (HO.lst ((ws' ++ (add ++ [k0])).map _))
            rw [<-List.append_assoc,List.map_append]
            rfl
          · rw [<-List.append_assoc,List.nodup_append]
            refine⟨h4,by simp,fun x hx y hy z=>?_⟩
            rw [List.mem_singleton.mp hy] at z
            exact hm0 (z ▸ hx)
          · intro k hk
            rw [<-List.append_assoc] at hk
            rcases List.mem_append.mp hk with hk | hk
            · exact h5 k hk
            · rw [List.mem_singleton.mp hk];exact hk0b
          · intro k hk
            rcases List.mem_append.mp hk with hk | hk
            · exact h6 k hk
            · rw [List.mem_singleton.mp hk];exact .step (sk.lr at_ hak) hps hk0m
          · intro k hk
            rw [htk] at hk
            rw [<-List.append_assoc]
            rcases List.mem_append.mp hk with hk | hk
            · exact List.mem_append_left _ (h7 k hk)
            · exact List.mem_append_right _ hk
      · rintro σ H6 ⟨ks',add,u2,rfl,h1,h2,rfl,h4,h5,h6,h7,h8⟩
        rw [show (vN (aB e)).length=(aB e).length from List.length_map ..,List.take_length] at h7
        have hfew:=bX h4 h5
        refine⟨ks++add,ws' ++ add,_,_,rfl,h1,h2,⟨h4,h5,fun k hk=>?_,List.mem_append_left _ sk.zero,fun k hk=>?_,fun k hk=>?_⟩,?_,?_,fun c o h=>?_⟩
        · rcases List.mem_append.mp hk with hk | hk
          · exact sk.lr k hk
          · exact h6 k hk
        · rcases List.mem_append.mp hk with hk | hk
          · exact List.mem_append_left _ (sk.sub k (List.mem_append_left _ hk))
          · exact List.mem_append_right _ hk
        · rcases List.mem_append.mp hk with hk | hk
          · by_cases hka:k=at_
            · subst hka
              refine .inr fun ds' e' he' j hj=>?_
              rw [hps] at he'
              cases he'
              exact h7 j hj
            · rcases sk.done k hk with hw | hd
              · rcases List.mem_append.mp hw with hw | hw
                · exact .inl (List.mem_append_left _ hw)
                · exact absurd (List.mem_singleton.mp hw) hka
              · exact .inr fun ds' e' he' j hj=>List.mem_append_left _ (hd ds' e' he' j hj)
          · exact .inl (List.mem_append_right _ hk)
        · rw [List.length_append] at hfew ⊢
          rw [List.length_append] at ⊢
          rw [hwl] at hm
          omega
        · rw [List.length_append,List.length_append]
          omega
        · exact h8 c o (s5 _ _ (s4 _ _ h)) (aF h nfs) (aF h nwH)
theorem qJ {f:Addr} {fd:FuncData} (F:b0 K "heads" "heads" jy f fd) (Z:Bl mg) (O_reached:Own P w K mg base "reached" 4 ["plan"] iB) (O_ways_on:Own P w K mg base "ways_on" 3 ["end"] i0):bw P w K mg base bW 5 f fd ["plan"] lB:=by
 refine F.ok (k:=4) fC (fun vs H Q E h=>?_) (fun cdv A outer s H vs Q E hr h=>?_)
 ·obtain⟨plv,ps,rfl,_⟩:=h
  rfl
 ·obtain⟨plv,ps,rfl,hp,hin,hn0,hn,q⟩:=h
  refine⟨_,(ab (aJ (i:=1) fC.nd (nr pf rfl Z.set o9))
   (ab (bV PassesOwn.never rfl (dD (ar O_reached hr (au (pv 0)))) (aX (i:=2) fC.nd)
   (af (bV PassesOwn.never rfl (dD (ar O_ways_on hr (au (aC bF (aC bF (pv 0) (pv 2)) aa)))) (aX (i:=3) fC.nd)
   (af (bL (aR qN (pv 3) (pv 2) (ba _))
   (af (cC (pB PySem.F.slot_set_add PySem.F.type_set_add mU (pv 1) (au (pv 3)))))
   bb)))))
   (af (aL (aT aP rfl Z.tuple bK (au (br (ff rfl) rfl Z.sorted cO (au (pv 1))))))))),?_⟩
  obtain⟨pp,vs,rfl,e1,r1⟩:=aI.bJ hp
  have hvl:=r1.len
  rw [List.length_map] at hvl
  refine⟨rfl,fun fs nfs=>?_⟩
  try change (_:Hp->Prop) (upd H fs (aW P w fs []))
  have s1:=ah.new (o:=aW P w fs []) nfs
  have hf1:(upd H fs (aW P w fs [])) fs=some (aW P w fs (kI [])):=U
  generalize (upd H fs (aW P w fs []))=H1 at s1 hf1
  refine⟨_,rfl,_,ps,rfl,hp.same s1 (eQ ps),hin,hn0,hn,fun t ks H2 ht hks hlt hkl s2=>?_⟩
  have hf2:=s2 _ _ hf1
  have s12:=s1.trans s2
  refine⟨t,rfl,⟨_,ay.of ht⟩,cM (K:=K) (a:=t) (xs:=vN ks) (fun i σ H'=>∃ (hs:List Nat) (u1 u2:Option V),σ = [some (.ref pp),some (.ref fs),u1,u2]/\H' fs=some (aW P w fs (kI hs))/\hs.Nodup/\(∀ k ∈ hs,k < ps.length)/\(∀ k,k ∈ hs ↔ ∃ j ∈ ks.take i,∃ ds e,ps[j]? = some (ds,e)/\k ∈ aB e/\k<=j)/\(∀ c o,H2 c=some o->c ≠ fs->H' c=some o)) ?_ ?_ ?_ ?_⟩
  ·exact⟨[],_,_,rfl,hf2,List.nodup_nil,(fun _ h=>nomatch h),fun k=>⟨fun h=>(nomatch h),fun ⟨j,hj,_⟩=>(by simp at hj)⟩,fun c o h _=>h⟩
  ·rintro i σ H3 hi ⟨hs,u1,u2,rfl,h1,h2,h3,h4,h5⟩
   exact ay.of (h5 _ _ ht (bU ht hf2 (by intro z;cases z)))
  ·rintro i y σ H3 hi ⟨hs,u1,u2,rfl,h1,h2,h3,h4,h5⟩
   obtain⟨at_,hat,rfl⟩:∃ k,ks[i]? = some k/\y=V.int (k:Nat):=by
    rw [List.getElem?_map] at hi
    cases z:ks[i]? with
    | none=>rw [z] at hi;cases hi
    | some k=>rw [z] at hi;exact⟨k,rfl,(Option.some.inj hi).symm⟩
   have hatl:=hlt at_ (List.mem_of_getElem? hat)
   have hps:ps[at_]? = some ps[at_]:=by simp [hatl]
   generalize ps[at_] = pce at hps
   obtain⟨ds,e⟩:=pce
   obtain⟨p',xs',pc,da,ea,wsv,ep,e1',el',hx',e2,e3,r3,e4⟩:=cK hp hps
   cases ep
   rw [e1] at e1'
   cases e1'
   have k3:∀ p zs,H p=some (.tup zs)->H3 p=some (.tup zs):=fun p zs h=>h5 _ _ (s12 _ _ h) (bU (s12 _ _ h) hf2 (by intro z;cases z))
   refine b9 ?_
   refine⟨_,rfl,_,rfl,pp,_,_,_,rfl,rfl,ay.of (k3 _ _ e1),bg hx',pc,_,1,_,rfl,rfl,ay.of (k3 _ _ e2),fI,ea,e,rfl,k3 _ _ e4,fun wt H5 hwt s5=>?_⟩
   refine⟨wt,rfl,⟨_,ay.of hwt⟩,cM (K:=K) (a:=wt) (xs:=vN (aB e)) (fun j σ H'=>∃ (hs':List Nat) (u2:Option V),σ = [some (.ref pp),some (.ref fs),some (.int (at_:Nat)),u2]/\H' fs=some (aW P w fs (kI hs'))/\hs'.Nodup/\(∀ k ∈ hs',k < ps.length)/\(∀ k,k ∈ hs' ↔ k ∈ hs\/(k ∈ (aB e).take j/\k<=at_))/\(∀ c o,H5 c=some o->c ≠ fs->H' c=some o)) ?_ ?_ ?_ ?_⟩
   ·exact⟨hs,_,rfl,s5 _ _ h1,h2,h3,fun k=>⟨.inl,fun h=>h.elim id fun ⟨z,_⟩=>by simp at z⟩,fun c o h _=>h⟩
   ·rintro j σ H6 hj ⟨hs',u2,rfl,g1,g2,g3,g4,g5⟩
    exact ay.of (g5 _ _ hwt (bU hwt (s5 _ _ h1) (by intro z;cases z)))
   ·rintro j y σ H6 hj ⟨hs',u2,rfl,g1,g2,g3,g4,g5⟩
    obtain⟨k0,hk0,rfl⟩:∃ k,(aB e)[j]? = some k/\y=V.int (k:Nat):=by
     rw [List.getElem?_map] at hj
     cases z:(aB e)[j]? with
     | none=>rw [z] at hj;cases hj
     | some k=>rw [z] at hj;exact⟨k,rfl,(Option.some.inj hj).symm⟩
    have hk0m:=List.mem_of_getElem? hk0
    have hk0b:=gQ hin hps k0 hk0m
    have htk:(aB e).take (j+1)=(aB e).take j ++ [k0]:=by rw [List.take_add_one,hk0];rfl
    refine b9 ?_
    refine⟨_,rfl,_,rfl,_,_,rfl,rfl,_,rfl,?_⟩
    refine dM (fun hc=>?_) (fun hc=>?_)
    ·have hle:k0<=at_:=by have:=of_decide_eq_true hc;omega
     have hfew:=bX g2 g3
     refine⟨_,rfl,⟨fs,_,rfl,g1⟩,_,rfl,fs,_,Sum.inl (k0:Int),rfl,rfl,g1,(by rw [List.length_map];exact Nat.lt_of_le_of_lt (show hs'.length+1<=1002 by omega) (by decide)),?_⟩
     rw [lq]
     try change (_:Hp->Prop) (upd H6 fs (aW P w fs (kI (LS.putIn hs' k0))))
     refine⟨LS.putIn hs' k0,_,rfl,U,lj g2,fun k hk=>?_,fun k=>?_,fun c o h c1=>by rw [ae c1];exact g5 c o h c1⟩
     ·rcases LS.dJ.mp hk with hk | hk
      ·exact g3 k hk
      ·rw [hk];exact hk0b
     ·rw [LS.dJ,g4,htk]
      constructor
      ·rintro ((h | ⟨h,h'⟩) | rfl)
       ·exact .inl h
       ·exact .inr ⟨List.mem_append_left _ h,h'⟩
       ·exact .inr ⟨List.mem_append_right _ (List.mem_singleton.mpr rfl),hle⟩
      ·rintro (h | ⟨h,h'⟩)
       ·exact .inl (.inl h)
       ·rcases List.mem_append.mp h with h | h
        ·exact .inl (.inr ⟨h,h'⟩)
        ·exact .inr (List.mem_singleton.mp h)
    ·have hle:¬ k0<=at_:=fun z=>hc (decide_eq_true (by omega))
     refine⟨hs',_,rfl,g1,g2,g3,fun k=>?_,g5⟩
     rw [g4,htk]
     constructor
     ·rintro (h | ⟨h,h'⟩)
      ·exact .inl h
      ·exact .inr ⟨List.mem_append_left _ h,h'⟩
     ·rintro (h | ⟨h,h'⟩)
      ·exact .inl h
      ·rcases List.mem_append.mp h with h | h
       ·exact .inr ⟨h,h'⟩
       ·rw [List.mem_singleton.mp h] at h';exact absurd h' hle
   ·rintro σ H6 ⟨hs',u2,rfl,g1,g2,g3,g4,g5⟩
    rw [show (vN (aB e)).length=(aB e).length from List.length_map ..,List.take_length] at g4
    refine⟨hs',_,_,rfl,g1,g2,g3,fun k=>?_,fun c o h c1=>g5 c o (s5 _ _ (h5 c o h c1)) c1⟩
    rw [g4,h4,List.take_add_one,hat]
    constructor
    ·rintro (⟨j,hj,r⟩ | ⟨h,h'⟩)
     ·exact⟨j,List.mem_append_left _ hj,r⟩
     ·exact⟨at_,List.mem_append_right _ (List.mem_singleton.mpr rfl),ds,e,hps,h,h'⟩
    ·rintro⟨j,hj,ds',e',hp',h,h'⟩
     rcases List.mem_append.mp hj with hj | hj
     ·exact .inl ⟨j,hj,ds',e',hp',h,h'⟩
     ·have hj:j=at_:=List.mem_singleton.mp hj
      subst hj
      rw [hps] at hp'
      cases hp'
      exact .inr ⟨h,h'⟩
  ·rintro σ H3 ⟨hs,u1,u2,rfl,h1,h2,h3,h4,h5⟩
   rw [show (vN ks).length=ks.length from List.length_map ..,List.take_length] at h4
   have hfew:=bX h2 h3
   refine⟨_,rfl,fs,hs.map (fun k:Nat=>(k:Int)),rfl,(by rw [h1,jt];rfl),(by rw [List.length_map];omega),fun l ss hperm hsrt nl=>?_⟩
   obtain⟨ms,rfl,hms⟩:=cY hperm
   refine⟨l,_,rfl,.inl ⟨ax.of U,?_⟩⟩
   rw [<-gs]
   intro t' nt
   have s3:ah H H3:=fun c o h=>h5 c o (s12 c o h) (aF h nfs)
   refine q t' ms _ U (fun k=>(hms.mem_iff).trans ((h4 k).trans ?_)) (fz hsrt (hms.nodup_iff.mpr h2)) ((s3.trans (ah.new nl)).trans (ah.new nt))
   constructor
   ·rintro⟨j,hj,ds,e,r1,r2,r3⟩
    exact⟨j,ds,e,(hks j).mp hj,r1,r2,r3⟩
   ·rintro⟨j,ds,e,hj,r1,r2,r3⟩
    exact⟨j,(hks j).mpr hj,ds,e,r1,r2,r3⟩
theorem nY {f:Addr} {fd:FuncData} (F:b0 K "_law_bag" "_law_bag" gA f fd) (Z:Bl mg)  : bw P w K mg base bW 1 f fd ["script", "k"] (qR K):=by
 refine F.ok (k:=0) fD (fun vs H Q E h=>?_) (fun cdv A outer s H vs Q E hr h=>?_)
 ·obtain⟨a,ns,k,rfl,_⟩:=h
  rfl
 ·obtain⟨a,ns,k,rfl,hS,hk,q⟩:=h
  refine⟨_,(ab (aJ (i:=2) fD.nd aa)
   (ab (bL (aR jY (pv 1) (br bG rfl Z.len dH (au (pv 0))) (ba _))
   (af (aJ (i:=2) fD.nd (aG cR (aC bD (pv 0) (pv 1)) (aG rF (aG iN aa aa) (aG iN aa aa)))))
   bb)
   (ab (bL (aR jY (pv 2) (aG iN aa aa) (ba _))
   (af (aL (b4 (aM aa (aG cn aa (aG cR (aG cn (aG eh (pv 2) aa) (aG eh aa (pv 1))) aa))))))
   bb)
   (af (aL (b4 (aM (pv 2) (aG cn aa (aG cR (aG cn (pv 2) (pv 1)) aa))))))))),?_⟩
  refine⟨_,rfl,_,rfl,_,_,rfl,.inl hS,_,_,rfl,rfl,_,rfl,?_⟩
  refine dM (fun hc=>?_) (fun hc=>?_)
  ·have hl:k < ((ns.map V.int).length:Nat):=of_decide_eq_true hc
   obtain⟨v,hv,hm⟩:=nB hk hl
   obtain⟨z,_,rfl⟩:=List.mem_map.mp hm
   refine⟨_,rfl,_,rfl,_,_,_,_,rfl,rfl,hS,hv,10,60,rfl,rfl,⟨by decide,by decide,by decide⟩,10,60,rfl,rfl,⟨by decide,by decide,by decide⟩,_,_,rfl,rfl,(by unfold IntMulOk;decide +kernel),_,_,rfl,rfl,(show (0:Int) < 10 ^ (60:Int).toNat * 10 ^ (60:Int).toNat by decide +kernel),?_⟩
   refine⟨_,rfl,10,18,rfl,rfl,⟨by decide,by decide,by decide⟩,_,_,rfl,rfl,_,rfl,?_⟩
   refine dM (fun hd=>?_) (fun hd=>?_)
   ·refine⟨_,rfl,_,_,rfl,rfl,.inr ⟨by decide,by decide⟩,_,rfl,_,_,rfl,rfl,.inl ⟨by decide,by decide⟩,_,_,rfl,rfl,_,_,rfl,rfl,(show (0:Int) < 2147483646 by decide),_,_,rfl,rfl,ln2,fun p hp=>?_⟩
    exact q p _ hp ⟨_,_,U,by omega,by omega⟩ (ah.new hp)
   ·refine⟨_,rfl,_,rfl,_,rfl,_,_,rfl,rfl,_,_,rfl,rfl,(show (0:Int) < 2147483646 by decide),_,_,rfl,rfl,ln2,fun p hp=>?_⟩
    exact q p _ hp ⟨_,_,U,by omega,by omega⟩ (ah.new hp)
  ·refine⟨_,rfl,10,18,rfl,rfl,⟨by decide,by decide,by decide⟩,_,_,rfl,rfl,_,rfl,?_⟩
   refine dM (fun hd=>?_) (fun hd=>?_)
   ·refine⟨_,rfl,_,_,rfl,rfl,.inr ⟨by decide,by decide⟩,_,rfl,_,_,rfl,rfl,.inl ⟨by decide,by decide⟩,_,_,rfl,rfl,_,_,rfl,rfl,(show (0:Int) < 2147483646 by decide),_,_,rfl,rfl,ln2,fun p hp=>?_⟩
    exact q p _ hp ⟨_,_,U,by omega,by omega⟩ (ah.new hp)
   ·refine⟨_,rfl,_,rfl,_,rfl,_,_,rfl,rfl,_,_,rfl,rfl,(show (0:Int) < 2147483646 by decide),_,_,rfl,rfl,ln2,fun p hp=>?_⟩
    exact q p _ hp ⟨_,_,U,by omega,by omega⟩ (ah.new hp)
theorem lV {f:Addr} {fd:FuncData} (F:b0 K "_law_take" "_law_take" fE f fd) (Z:Bl mg)  : bw P w K mg base bW 1 f fd ["bag", "many"] cU:=by
 refine F.ok (k:=0) ig (fun vs H Q E h=>?_) (fun cdv A outer s H vs Q E hr h=>?_)
 ·obtain⟨b,m,rfl,_⟩:=h
  rfl
 ·obtain⟨b,m,rfl,⟨x,y,hb,h0,h1⟩,hm,q⟩:=h
  refine⟨_,(ab (bL (aR uo (aC bD (pv 0) aa) aa (ba _))
   (ab (aJ (i:=2) ig.nd (aG cR (aC bD (pv 0) aa) (pv 1)))
   (ab (ki (aG qd (aC bD (pv 0) aa) (pv 1)) (kh (pv 0) aa set_list))
   (af (aL (pv 2)))))
   bb)
   (ab (ki (aG cR (aG eh (aC bD (pv 0) aa) aa) aa) (kh (pv 0) aa set_list))
   (af (aL (aG cR (aG jf (aG cR (aG eh (aC bD (pv 0) aa) (aC bD (pv 0) aa)) aa) aa) (pv 1)))))),?_⟩
  refine⟨_,rfl,b,_,0,_,rfl,rfl,ax.of hb,gZ,_,_,rfl,rfl,_,rfl,?_⟩
  refine dM (fun hc=>?_) (fun hc=>?_)
  ·refine⟨_,rfl,b,_,0,_,rfl,rfl,ax.of hb,gZ,_,rfl,_,_,rfl,rfl,hm.1,?_⟩
   refine⟨_,rfl,b,_,0,_,rfl,rfl,ax.of hb,gZ,_,rfl,_,_,rfl,rfl,hm,_,rfl,b,_,0,0,rfl,rfl,hb,rfl,?_⟩
   refine⟨_,rfl,?_⟩
   exact q _ _ (Int.emod_nonneg _ (by have:=hm.1;omega)) (Int.emod_lt_of_pos _ hm.1) ⟨_,_,U,h0,h1⟩ Fix.qP
  ·refine⟨_,rfl,b,_,1,_,rfl,rfl,ax.of hb,fI,_,_,rfl,rfl,.inr ⟨by decide,by decide⟩,_,_,rfl,rfl,(show (0:Int) < 2147483647 by decide),_,rfl,b,_,1,1,rfl,rfl,hb,rfl,?_⟩
   refine⟨_,rfl,b,_,1,_,rfl,rfl,ax.of U,fI,_,rfl,b,_,1,_,rfl,rfl,ax.of U,fI,_,_,rfl,rfl,.inl ⟨by omega,by omega⟩,_,_,rfl,rfl,(show (0:Int) < 2147483629 by decide),_,_,rfl,rfl,⟨by decide,by decide⟩,_,rfl,_,_,rfl,rfl,hm.1,?_⟩
   exact q _ _ (Int.emod_nonneg _ (by have:=hm.1;omega)) (Int.emod_lt_of_pos _ hm.1) ⟨_,_,U,by omega,by omega⟩ Fix.qP
theorem lH {f:Addr} {fd:FuncData} (F:b0 K "_law_names" "_law_names" eS f fd) (Z:Bl mg) (O_law_take:Own P w K mg base "_law_take" 1 ["bag", "many"] cU):bw P w K mg base bW 2 f fd ["bag"] mI:=by
  refine F.ok (k:=1) bH (fun vs H Q E h=>?_) (fun cdv A outer s H vs Q E hr h=>?_)
  · obtain⟨b,rfl,_⟩:=h
    rfl
  · obtain⟨b,rfl,hB,q⟩:=h
    refine⟨_,(ab (aJ (i:=1) bH.nd aZ)
      (ab (aJ (i:=2) bH.nd (aG cn aa (ar O_law_take hr (aM (pv 0) aa))))
      (ab (qe (i:=3) ["k"] ["letters", "bag"] [1,0] rfl bH.nd rfl rfl rfl (cy rfl Z.range (au (aG cn aa (ar O_law_take hr (aM (pv 0) aa))))) rfl (by decide +kernel) (by decide +kernel) (by decide +kernel) ⟨⟨rfl,.inl rfl,rfl⟩,⟨⟨rfl,.inl rfl,rfl⟩,True.intro⟩⟩ (fun _ _ _ _=>(aX (i:=0) (show ((["k"]:List Str)++(["letters", "bag"]:List Str)).Nodup by decide +kernel) (hf:=Or.inr rfl))) (fun _ _ _ _=>gK) (fun _ _ _ _=>(aC iR (pv 1) (ar O_law_take hr (aM (pv 2) aa)))))
      (ab (aJ (i:=4) bH.nd (ar O_law_take hr (aM (pv 0) (br bG rfl Z.len dH (au (pv 3))))))
      (ab (aJ (i:=5) bH.nd (b4 cT))
      (ab (bV PassesOwn.never rfl (cy rfl Z.range (au (pv 2))) (aX (i:=6) bH.nd)
      (ab (aJ (i:=7) bH.nd (aT fX rfl Z.list mF (au (pv 3))))
      (ab (ki (aC iR (pv 1) (ar O_law_take hr (aM (pv 0) aa))) (kh (pv 7) (pv 4) set_list))
      (af (bL (aR fW (dW PySem.F.plainAttrs_str PySem.F.slot_str_join PySem.F.type_str_join mH aZ (au (pv 7))) (pv 5) (by with_unfolding_all rfl))
      (af (cC (dW PySem.F.plainAttrs_list PySem.F.slot_list_append PySem.F.type_list_append cN (pv 5) (au (dW PySem.F.plainAttrs_str PySem.F.slot_str_join PySem.F.type_str_join mH aZ (au (pv 7)))))))
      bb)))))
      (af (aL (pv 5))))))))),?_⟩
    refine⟨_,rfl,b,4,rfl,hB,⟨by decide,by decide +kernel⟩,fun m H1 m0 m1 B1 X1=>⟨_,_,rfl,rfl,?_⟩⟩
    refine⟨_,rfl,b,8,rfl,B1,⟨by decide,by decide +kernel⟩,fun k H2 k0 k1 B2 X2=>⟨_,_,rfl,rfl,_,rfl,(by omega),(by omega),fun acc na=>?_⟩⟩
    refine fm (lo:=0) (fun i ys τ H'=>∃ (v:Option V) (cs:List Nat),τ = [v,some (.str e7),some (.ref b)]/\ys=(cs.map one).map V.str/\cs.length=i/\(∀ c ∈ cs,97<=c/\c<=122)/\H' acc=some (.lst ys)/\bx H' b/\Fix b H2 H') ?_ ?_ ?_ ?_
    · exact⟨none,[],rfl,rfl,rfl,(fun _ h=>nomatch h),U,B2.new na,Fix.new na⟩
    · rintro i ys τ H' hi ⟨v,cs,rfl,rfl,hl,_,ha,_⟩
      refine⟨ha,?_⟩
      rw [List.length_map,List.length_map]
      exact bA (by omega)
    · rintro i ys τ H' hi ⟨v,cs,rfl,rfl,hl,hc,ha,B',X'⟩
      refine b9 ?_
      refine nG ?_
      refine fj ?_
      refine⟨_,rfl,_,rfl,b,26,rfl,B',⟨by decide,by decide +kernel⟩,fun r H3 r0 r1 B3 X3=>?_⟩
      obtain⟨c,hat,c0,c1⟩:=iV r0 r1
      have hab:acc ≠ b:=B2.b6 na
      have ha3:=X3 acc _ ha hab
      refine⟨e7,r,c,rfl,rfl,gM,hat,ha3,_,cs ++ [c],rfl,?_,?_,?_,U,?_,?_⟩
      · rw [List.map_append,List.map_append];rfl
      · rw [List.length_append,hl];rfl
      · intro d hd
        rcases List.mem_append.mp hd with hd | hd
        · exact hc d hd
        · rw [List.mem_singleton.mp hd];exact⟨c0,c1⟩
      · obtain⟨x,y,e,z⟩:=B3
        exact⟨x,y,by rw [ae hab.symm];exact e,z⟩
      · intro d o hd nd
        rw [ae (aF hd na)]
        exact (X'.trans X3) d o hd nd
    · rintro ys τ H3 ⟨v,cs,rfl,rfl,hl,hc,ha,B3,X3⟩
      have hab:acc ≠ b:=B2.b6 na
      have hl1:1<=cs.length:=by omega
      have hl8:cs.length<=8:=by omega
      have F3:Fix b H H3:=(X1.trans X2).trans X3
      have el:(((cs.map one).map V.str).length:Int)=cs.length:=by simp
      refine⟨_,rfl,_,rfl,acc,_,rfl,.inl (ax.of ha),b,_,rfl,B3,⟨by omega,dI (by omega) (by omega)⟩,fun at_ H4 t0 t1 B4 X4=>?_⟩
      refine⟨(by show 0<=sizeLine;decide),fun nl nn=>?_⟩
      have hnb:nl ≠ b:=B4.b6 nn
      have ha4:H4 acc=some (.lst ((cs.map one).map V.str)):=X4 acc _ ha hab
      have hna:nl ≠ acc:=fun z=>by rw [z,ha4] at nn;cases nn
      have F4:Fix b H H4:=F3.trans X4
      refine⟨_,rfl,_,rfl,(by omega),(by omega),fU (lo:=0) (fun i σ H'=>∃ (u1 u2:Option V) (xs:List Str),σ = [some (.ref b),some (.str e7),some (.int (1+m)),some (.ref acc),some (.int at_),some (.ref nl),u1,u2] /\
        H' nl=some (.lst (xs.map V.str))/\xs.length<=i/\(0 < i->xs ≠ [])/\(∀ x ∈ xs,cA x)/\H' acc=some (.lst ((cs.map one).map V.str))/\bx H' b/\Fix b H H') ?_ ?_ ?_⟩
      · exact⟨_,_,[],rfl,U,Nat.le_refl _,(fun h=>absurd h (Nat.lt_irrefl _)),(fun _ h=>nomatch h),(by rw [ae hna.symm];exact ha4),B4.new nn,F4.trans (Fix.new nn)⟩
      · rintro i σ H' hi ⟨u1,u2,xs,rfl,hn,hx,hx0,av,ha',B',X'⟩
        refine⟨_,rfl,acc,_,rfl,.inl (ax.of ha'),fun nm mm=>?_⟩
        have nmb:nm ≠ b:=B'.b6 mm
        have nma:nm ≠ acc:=fun z=>by rw [z,ha'] at mm;cases mm
        have nmn:nm ≠ nl:=fun z=>by rw [z,hn] at mm;cases mm
        refine⟨_,rfl,_,rfl,b,26,rfl,B'.new mm,⟨by decide,by decide +kernel⟩,fun r H5 r0 r1 B5 X5=>?_⟩
        obtain⟨c,hat,c0,c1⟩:=iV r0 r1
        have h5:H5 nm=some (.lst ((cs.map one).map V.str)):=X5 nm _ U nmb
        have hn5:H5 nl=some (.lst (xs.map V.str)):=X5 nl _ (by rw [ae nmn.symm];exact hn) hnb
        have ha5:H5 acc=some (.lst ((cs.map one).map V.str)):=X5 acc _ (by rw [ae nma.symm];exact ha') hab
        obtain⟨j,rfl⟩:∃ j:Nat,at_=j:=⟨at_.toNat,by omega⟩
        have hj:j < cs.length:=by omega
        have hix:iQ ((cs.map one).map V.str).length (j:Int)=some j:=by
          unfold iQ
          rw [if_pos (by omega),if_pos (by rw [el];omega)]
          simp
        refine⟨e7,r,c,rfl,rfl,gM,hat,_,rfl,_,rfl,nm,_,(j:Int),j,rfl,rfl,h5,hix,?_⟩
        have eset:((cs.map one).map V.str).set j (.str ⟨#[c]⟩)=((cs.set j c).map one).map V.str:=by
          rw [List.map_set,List.map_set];rfl
        rw [eset]
        have hc':∀ d ∈ cs.set j c,97<=d/\d<=122:=fun d hd=>by
          rcases List.mem_or_eq_of_mem_set hd with hd | hd
          · exact hc d hd
          · rw [hd];exact⟨c0,c1⟩
        have hjl:(((cs.set j c).map one).map (·.length)).sum+((cs.set j c).map one).length * (Str.ofString "").length<=16777216:=by
          have e1:(Str.ofString "").length=0:=by decide +kernel
          have e2:∀ l:List Nat,((l.map one).map (·.length)).sum=l.length:=by
            intro l
            induction l with
            | nil=>rfl
            | cons a l ih=>simp only [List.map_cons,List.sum_cons,ih,List.length_cons];show 1+l.length=_;omega
          rw [e1,e2,List.length_set]
          omega
        have nk:cA (Txt.join (Str.ofString "") ((cs.set j c).map one)):=by
          rw [qf]
          have ej:=L2.join_ones (cs.set j c)
          have eL:(Txt.join Str.empty ((cs.set j c).map one)).length=(cs.set j c).length:=by
            have:=congrArg List.length ej
            rw [Array.length_toList] at this
            exact this
          refine⟨?_,?_,?_⟩
          · rw [eL,List.length_set];exact hl1
          · rw [eL,List.length_set];exact hl8
          · rw [ej];exact hc'
        have n6:upd H5 nm (.lst (((cs.set j c).map one).map V.str)) nl=some (.lst (xs.map V.str)):=by rw [ae nmn.symm];exact hn5
        have a6:upd H5 nm (.lst (((cs.set j c).map one).map V.str)) acc=some (.lst ((cs.map one).map V.str)):=by rw [ae nma.symm];exact ha5
        have B6:bx (upd H5 nm (.lst (((cs.set j c).map one).map V.str))) b:=by
          obtain⟨x,y,e,z⟩:=B5
          exact⟨x,y,by rw [ae nmb.symm];exact e,z⟩
        have F6:Fix b H (upd H5 nm (.lst (((cs.set j c).map one).map V.str))):=fun d o hd nd=>by
          have h1:=X' d o hd nd
          have nd':d ≠ nm:=fun z=>by rw [z,mm] at h1;cases h1
          rw [ae nd']
          exact X5 d o (by rw [ae nd'];exact h1) nd
        have flat:(xs.map V.str).all dB=true:=by
          rw [List.all_eq_true]
          intro v hv
          obtain⟨x,_,rfl⟩:=List.mem_map.mp hv
          rfl
        refine⟨rfl,_,rfl,_,nm,_,rfl,rfl,ax.of U,hjl,_,rfl,nl,_,rfl,.inl (ax.of n6),rfl,flat,_,rfl,?_⟩
        refine dM (fun hin=>?_) (fun hin=>?_)
        · refine⟨_,rfl,.inl ⟨rfl,_,ax.of n6⟩,rfl,_,rfl,_,nm,_,rfl,rfl,ax.of U,hjl,nl,_,_,rfl,rfl,n6,?_,?_⟩
          · rw [List.length_map]
            have:i < 4:=by omega
            exact bA (by omega)
          · refine⟨_,_,xs ++ [_],rfl,(by rw [U,List.map_append];rfl),(by rw [List.length_append];exact Nat.succ_le_succ hx),(fun _=>by simp),?_,(by rw [ae hna.symm];exact a6),?_,?_⟩
            · intro x hxm
              rcases List.mem_append.mp hxm with hxm | hxm
              · exact av x hxm
              · rw [List.mem_singleton.mp hxm];exact nk
            · obtain⟨x,y,e,z⟩:=B6
              exact⟨x,y,by rw [ae hnb.symm];exact e,z⟩
            · intro d o hd nd
              have h1:=F6 d o hd nd
              have nd':d ≠ nl:=fun z=>by
                have h2:=F4 d o hd nd
                rw [z,nn] at h2
                cases h2
              rw [ae nd']
              exact h1
        · have hx':xs ≠ []:=by
            intro e
            subst e
            exact hin rfl
          exact⟨_,_,xs,rfl,n6,Nat.le_succ_of_le hx,fun _=>hx',av,a6,B6,F6⟩
      · rintro σ H' ⟨u1,u2,xs,rfl,hn,hx,hx0,av,ha',B',X'⟩
        refine⟨_,rfl,?_⟩
        have hm:(1+m).toNat<=4:=by omega
        have hm0:0 < (1+m).toNat:=by omega
        exact q nl xs H' ⟨hn,hnb,hx0 hm0,by omega,av⟩ (Nat.le_trans hx hm) B' X'
theorem jX {f:Addr} {fd:FuncData} (F:b0 K "_law_number" "_law_number" eD f fd) (Z:Bl mg) (O_law_take:Own P w K mg base "_law_take" 1 ["bag", "many"] cU):bw P w K mg base bW 2 f fd ["bag"] ir:=by
 refine F.ok (k:=1) jW (fun vs H Q E h=>?_) (fun cdv A outer s H vs Q E hr h=>?_)
 ·obtain⟨b,rfl,_⟩:=h
  rfl
 ·obtain⟨b,rfl,hB,q⟩:=h
  refine⟨_,(ab (bL (aR cS (ar O_law_take hr (aM (pv 0) aa)) aa (ba _))
   (af (aL (aG eh (aG iM (aG iM (aG iN aa aa) aa) (ar O_law_take hr (aM (pv 0) aa))) (aG iM aa (aG eh aa (ar O_law_take hr (aM (pv 0) aa)))))))
   bb)
   (af (aL (aG iM (ar O_law_take hr (aM (pv 0) aa)) aa)))),?_⟩
  refine⟨_,rfl,b,8,rfl,hB,⟨by decide,by decide +kernel⟩,fun r H1 r0 r1 B1 X1=>⟨rfl,_,rfl,?_⟩⟩
  refine dM (fun hc=>?_) (fun hc=>?_)
  ·refine⟨10,40,rfl,rfl,⟨by decide,by decide,by decide⟩,_,_,rfl,rfl,?_⟩
   refine⟨_,rfl,b,3,rfl,B1,⟨by decide,by decide +kernel⟩,fun r2 H2 r20 r21 B2 X2=>⟨_,_,rfl,rfl,?_⟩⟩
   refine⟨_,rfl,b,2,rfl,B2,⟨by decide,by decide +kernel⟩,fun r3 H3 r30 r31 B3 X3=>?_⟩
   refine⟨_,_,rfl,rfl,.inl ⟨by decide,by decide⟩,_,_,rfl,rfl,_,_,rfl,rfl,.inr ⟨by omega,by omega⟩,?_⟩
   refine q _ H3 ?_ B3 ((X1.trans X2).trans X3)
   have e:(10:Int) ^ (40:Int).toNat=10 ^ 40:=by decide +kernel
   rw [e]
   obtain rfl | rfl:r3=0\/r3=1:=by omega
   ·rw [show (1:Int) - 2 * 0=1 by decide,Int.mul_one];unfold fo;omega
   ·rw [show (1:Int) - 2 * 1 = -1 by decide,Int.mul_neg,Int.mul_one];unfold fo;omega
  ·refine⟨_,rfl,b,8,rfl,B1,⟨by decide,by decide +kernel⟩,fun r2 H2 r20 r21 B2 X2=>⟨_,_,rfl,rfl,?_⟩⟩
   exact q _ H2 (by unfold fo;omega) B2 (X1.trans X2)
theorem lW {f:Addr} {fd:FuncData} (F:b0 K "_law_deed" "_law_deed" fF f fd) (Z:Bl mg) (O_law_take:Own P w K mg base "_law_take" 1 ["bag", "many"] cU) (O_law_number:Own P w K mg base "_law_number" 2 ["bag"] ir):bw P w K mg base bW 3 f fd ["bag", "names"] kC:=by
 refine F.ok (k:=2) eT (fun vs H Q E h=>?_) (fun cdv A outer s H vs Q E hr h=>?_)
 ·obtain⟨b,l,xs,rfl,_⟩:=h
  rfl
 ·obtain⟨b,l,xs,rfl,hB,hN,q⟩:=h
  refine⟨_,(ab (aJ (i:=2) eT.nd (aC bD (b4 (bf aZ (bf aZ (bf aZ (bf aZ (bf aZ (bf aZ (bf aZ cT)))))))) (ar O_law_take hr (aM (pv 0) aa))))
   (ab (aJ (i:=3) eT.nd (aC bD (pv 1) (ar O_law_take hr (aM (pv 0) (br bG rfl Z.len dH (au (pv 1)))))))
   (ab (bL (aR cS (pv 2) aZ (ba _))
   (af (aL (dE (fw (pv 2) (pv 3) (aC bD (pv 1) (ar O_law_take hr (aM (pv 0) (br bG rfl Z.len dH (au (pv 1))))))))))
   bb)
   (ab (bL (PW.pt (uf (aR cS (pv 2) aZ (ba _)) (sJ (aR cS (pv 2) aZ (ba _)))))
   (af (aL (dE (fw (pv 2) (pv 3) (ar O_law_number hr (au (pv 0)))))))
   bb)
   (af (aL (dE (aM (pv 2) (pv 3))))))))),?_⟩
  refine⟨vw,fun l0 m0=>?_⟩
  refine⟨_,rfl,b,7,rfl,hB.new m0,⟨by decide,by decide +kernel⟩,fun r H1 r0 r1 B1 X1=>?_⟩
  have h0:H1 l0=some (.lst [.str "put",.str "copy",.str "add",.str "read",.str "tell",.str "tell",.str "add"]):=X1 l0 _ U (hB.b6 m0)
  have F1:Fix b H H1:=(Fix.new m0).trans X1
  have N1:=hN.fix F1
  have hw:∃ w:Str,(w = "put" \/ w = "copy" \/ w = "add" \/ w = "read" \/ w = "tell")/\dq [V.str "put",.str "copy",.str "add",.str "read",.str "tell",.str "tell",.str "add"] r=some (V.str w):=by
   obtain rfl | rfl | rfl | rfl | rfl | rfl | rfl:r=0\/r=1\/r=2\/r=3\/r=4\/r=5\/r=6:=by omega
   ·exact⟨_,.inl rfl,bg (j:=0) rfl⟩
   ·exact⟨_,.inr (.inl rfl),bg (j:=1) rfl⟩
   ·exact⟨_,.inr (.inr (.inl rfl)),bg (j:=2) rfl⟩
   ·exact⟨_,.inr (.inr (.inr (.inl rfl))),bg (j:=3) rfl⟩
   ·exact⟨_,.inr (.inr (.inr (.inr rfl))),bg (j:=4) rfl⟩
   ·exact⟨_,.inr (.inr (.inr (.inr rfl))),bg (j:=5) rfl⟩
   ·exact⟨_,.inr (.inr (.inl rfl)),bg (j:=6) rfl⟩
  obtain⟨w,hw,hat⟩:=hw
  refine⟨l0,_,r,_,rfl,rfl,ax.of h0,hat,?_⟩
  obtain⟨p0,p1⟩:=N1.pos
  refine⟨_,rfl,_,rfl,_,rfl,l,_,rfl,.inl (ax.of N1.at_),b,_,rfl,B1,⟨p0,dI p0 p1⟩,fun r2 H2 r20 r21 B2 X2=>?_⟩
  have N2:=N1.fix X2
  obtain⟨x,hx,hxm⟩:=iu r20 r21
  refine⟨l,_,r2,_,rfl,rfl,ax.of N2.at_,hx,?_⟩
  refine⟨_,rfl,rfl,_,rfl,?_⟩
  rcases hw with rfl | rfl | rfl | rfl | rfl
  ·
   rw [show decide (V.str "put" = V.str "copy")=false by decide +kernel]
   refine eN ⟨_,rfl,rfl,_,rfl,?_⟩
   rw [show decide (V.str "put" = V.str "put")=true by decide +kernel]
   refine fj (fj ⟨_,rfl,_,rfl,_,rfl,b,rfl,B2,fun n H3 nk B3 X3=>⟨qQ,fun t mt=>?_⟩⟩)
   exact q _ (.put x n) _ (.tup U (.cons (.str _) (.cons (.str _) (.cons (.int _) .nil)))) ⟨hxm,nk⟩ (B3.new mt) (((F1.trans X2).trans X3).trans (Fix.new mt))
  ·
   rw [show decide (V.str "copy" = V.str "copy")=true by decide +kernel]
   obtain⟨p0,p1⟩:=N2.pos
   refine fj ⟨_,rfl,_,rfl,_,rfl,_,rfl,_,rfl,l,_,rfl,.inl (ax.of N2.at_),b,_,rfl,B2,⟨p0,dI p0 p1⟩,fun r3 H3 r30 r31 B3 X3=>?_⟩
   have N3:=N2.fix X3
   obtain⟨y,hy,hym⟩:=iu r30 r31
   refine⟨l,_,r3,_,rfl,rfl,ax.of N3.at_,hy,qQ,fun t mt=>?_⟩
   exact q _ (.copy x y) _ (.tup U (.cons (.str _) (.cons (.str _) (.cons (.str _) .nil)))) ⟨hxm,hym⟩ (B3.new mt) (((F1.trans X2).trans X3).trans (Fix.new mt))
  ·
   rw [show decide (V.str "add" = V.str "copy")=false by decide +kernel]
   refine eN ⟨_,rfl,rfl,_,rfl,?_⟩
   rw [show decide (V.str "add" = V.str "put")=false by decide +kernel]
   refine eN ⟨_,rfl,rfl,_,rfl,?_⟩
   rw [show decide (V.str "add" = V.str "add")=true by decide +kernel]
   refine fj ⟨_,rfl,_,rfl,_,rfl,b,rfl,B2,fun n H3 nk B3 X3=>⟨qQ,fun t mt=>?_⟩⟩
   exact q _ (.add x n) _ (.tup U (.cons (.str _) (.cons (.str _) (.cons (.int _) .nil)))) ⟨hxm,nk⟩ (B3.new mt) (((F1.trans X2).trans X3).trans (Fix.new mt))
  ·
   rw [show decide (V.str "read" = V.str "copy")=false by decide +kernel]
   refine eN ⟨_,rfl,rfl,_,rfl,?_⟩
   rw [show decide (V.str "read" = V.str "put")=false by decide +kernel]
   refine eN ⟨_,rfl,rfl,_,rfl,?_⟩
   rw [show decide (V.str "read" = V.str "add")=false by decide +kernel]
   refine eN ⟨_,rfl,_,rfl,ln2,fun t mt=>?_⟩
   exact q _ (.read x) _ (.tup U (.cons (.str _) (.cons (.str _) .nil))) hxm (B2.new mt) ((F1.trans X2).trans (Fix.new mt))
  ·
   rw [show decide (V.str "tell" = V.str "copy")=false by decide +kernel]
   refine eN ⟨_,rfl,rfl,_,rfl,?_⟩
   rw [show decide (V.str "tell" = V.str "put")=false by decide +kernel]
   refine eN ⟨_,rfl,rfl,_,rfl,?_⟩
   rw [show decide (V.str "tell" = V.str "add")=false by decide +kernel]
   refine eN ⟨_,rfl,_,rfl,ln2,fun t mt=>?_⟩
   exact q _ (.tell x) _ (.tup U (.cons (.str _) (.cons (.str _) .nil))) hxm (B2.new mt) ((F1.trans X2).trans (Fix.new mt))
theorem nZ {f:Addr} {fd:FuncData} (F:b0 K "_law_end" "_law_end" gB f fd) (Z:Bl mg) (O_law_take:Own P w K mg base "_law_take" 1 ["bag", "many"] cU) (O_law_number:Own P w K mg base "_law_number" 2 ["bag"] ir):bw P w K mg base bW 3 f fd ["bag", "names", "count"] kF:=by
 refine F.ok (k:=2) dZ (fun vs H Q E h=>?_) (fun cdv A outer s H vs Q E hr h=>?_)
 ·obtain⟨b,l,xs,c,rfl,_⟩:=h
  rfl
 ·obtain⟨b,l,xs,c,rfl,hB,hN,c0,c1,q⟩:=h
  refine⟨_,(ab (aJ (i:=3) dZ.nd (ar O_law_take hr (aM (pv 0) aa)))
   (ab (bL (aR cS (pv 3) aa (ba _))
   (af (aL (dE (au aZ))))
   bb)
   (ab (bL (aR jY (pv 3) aa (ba _))
   (af (aL (dE (aM aZ (ar O_law_take hr (aM (pv 0) (pv 2)))))))
   bb)
   (ab (aJ (i:=4) dZ.nd (aC bD (b4 (aM aZ aZ)) (aG jf (ar O_law_take hr (aM (pv 0) aa)) aa)))
   (ab (aJ (i:=5) dZ.nd (aC bD (pv 1) (ar O_law_take hr (aM (pv 0) (br bG rfl Z.len dH (au (pv 1)))))))
   (af (aL (dE (bf (pv 4) (bf (pv 5) (bf (ar O_law_number hr (au (pv 0))) (bf (ar O_law_take hr (aM (pv 0) (pv 2))) (bf (ar O_law_take hr (aM (pv 0) (pv 2))) cT))))))))))))),?_⟩
  have ck:(0:Int) < (c:Int)/\(c:Int).natAbs.log2 < 9000:=⟨by omega,dI (by omega) (by omega)⟩
  refine⟨_,rfl,b,9,rfl,hB,⟨by decide,by decide +kernel⟩,fun r H1 r0 r1 B1 X1=>?_⟩
  refine⟨_,rfl,rfl,_,rfl,?_⟩
  refine dM (fun hc=>?_) (fun hc=>?_)
  ·refine⟨tJ,fun t mt=>?_⟩
   exact q _ .stop _ (.tup U (.cons (.str _) .nil)) True.intro (B1.new mt) (X1.trans (Fix.new mt))
  refine⟨_,rfl,_,_,rfl,rfl,_,rfl,?_⟩
  refine dM (fun hd=>?_) (fun hd=>?_)
  ·refine⟨_,rfl,_,rfl,b,_,rfl,B1,ck,fun p H2 p0 p1 B2 X2=>⟨ln2,fun t mt=>?_⟩⟩
   obtain⟨k,rfl⟩:∃ k:Nat,p=k:=⟨p.toNat,by omega⟩
   exact q _ (.go k) _ (.tup U (.cons (.str _) (.cons (.int _) .nil))) (show k < c by omega) (B2.new mt) ((X1.trans X2).trans (Fix.new mt))
  ·refine⟨ln2,fun l0 m0=>?_⟩
   refine⟨_,rfl,b,3,rfl,B1.new m0,⟨by decide,by decide +kernel⟩,fun z H2 z0 z1 B2 X2=>⟨_,_,rfl,rfl,⟨by decide,by decide⟩,?_⟩⟩
   have h0:H2 l0=some (.lst [.str "less",.str "is"]):=X2 l0 _ U (B1.b6 m0)
   have hw:∃ w:Bool,dq [V.str "less",V.str "is"] (z / 2)=some (V.str (wT w)):=by
    obtain h | h:z / 2=0\/z / 2=1:=by omega
    ·rw [h];exact⟨true,gZ⟩
    ·rw [h];exact⟨false,fI⟩
   obtain⟨w,hat⟩:=hw
   refine⟨l0,_,_,_,rfl,rfl,ax.of h0,hat,?_⟩
   have F2:Fix b H H2:=(X1.trans (Fix.new m0)).trans X2
   have N2:=hN.fix F2
   obtain⟨p0,p1⟩:=N2.pos
   refine⟨_,rfl,_,rfl,_,rfl,l,_,rfl,.inl (ax.of N2.at_),b,_,rfl,B2,⟨p0,dI p0 p1⟩,fun r3 H3 r30 r31 B3 X3=>?_⟩
   have N3:=N2.fix X3
   obtain⟨x,hx,hxm⟩:=iu r30 r31
   refine⟨l,_,r3,_,rfl,rfl,ax.of N3.at_,hx,?_⟩
   refine⟨_,rfl,_,rfl,_,rfl,b,rfl,B3,fun n H4 nk B4 X4=>?_⟩
   refine⟨_,rfl,_,rfl,b,_,rfl,B4,ck,fun p H5 p0 p1 B5 X5=>?_⟩
   refine⟨_,rfl,_,rfl,b,_,rfl,B5,ck,fun p' H6 p0' p1' B6 X6=>⟨vv,fun t mt=>?_⟩⟩
   obtain⟨k,rfl⟩:∃ k:Nat,p=k:=⟨p.toNat,by omega⟩
   obtain⟨k',rfl⟩:∃ k:Nat,p' = k:=⟨p'.toNat,by omega⟩
   exact q _ (.dr w x n k k') _ (.tup U (.cons (.str _) (.cons (.str _) (.cons (.int _) (.cons (.int _) (.cons (.int _) .nil)))))) ⟨hxm,nk,by omega,by omega⟩ (B6.new mt) ((((F2.trans X3).trans X4).trans (X5.trans X6)).trans (Fix.new mt))
theorem lZ {f:Addr} {fd:FuncData} (F:b0 K "_law_plan" "_law_plan" fG f fd) (Z:Bl mg) (O_law_take:Own P w K mg base "_law_take" 1 ["bag", "many"] cU) (O_law_names:Own P w K mg base "_law_names" 2 ["bag"] mI) (O_law_deed:Own P w K mg base "_law_deed" 3 ["bag", "names"] kC) (O_law_end:Own P w K mg base "_law_end" 3 ["bag", "names", "count"] kF):bw P w K mg base bW 4 f fd ["bag", "count", "most"] oP:=by
  refine F.ok (k:=3) cq (fun vs H Q E h=>?_) (fun cdv A outer s H vs Q E hr h=>?_)
  · obtain⟨b,c,m,rfl,_⟩:=h
    rfl
  · obtain⟨b,c,m,rfl,hB,c0,c1,hm,q⟩:=h
    refine⟨_,(ab (aJ (i:=3) cq.nd (ar O_law_names hr (au (pv 0))))
      (ab (aJ (i:=4) cq.nd (b4 cT))
      (ab (bV PassesOwn.never rfl (cy rfl Z.range (au (pv 1))) (aX (i:=5) cq.nd)
      (ab (aJ (i:=6) cq.nd (ar O_law_take hr (aM (pv 0) (aG cn (pv 2) aa))))
      (ab (aJ (i:=7) cq.nd (ar O_law_end hr (fw (pv 0) (pv 3) (pv 1))))
      (af (cC (dW PySem.F.plainAttrs_list PySem.F.slot_list_append PySem.F.type_list_append cN (pv 4) (au (dE (aM (aT aP rfl Z.tuple bK (au (fk ["j"] ["bag", "names"] [0,3] rfl (cy rfl Z.range (au (pv 6))) rfl (by decide +kernel) (by decide +kernel) (by decide +kernel) ⟨⟨rfl,.inl rfl,rfl⟩,⟨⟨rfl,.inl rfl,rfl⟩,True.intro⟩⟩ (fun _ _ _ _=>(aX (i:=0) (show ((["j"]:List Str)++(["bag", "names"]:List Str)).Nodup by decide +kernel) (hf:=Or.inr rfl))) (fun _ _ _ _=>gK) (fun _ _ _ _=>(ar O_law_deed hr (aM (pv 1) (pv 2))))))) (pv 7))))))))))
      (af (aL (aT aP rfl Z.tuple bK (au (pv 4)))))))),?_⟩
    refine⟨_,rfl,b,rfl,hB,fun l xs H1 N1 x4 B1 X1=>?_⟩
    refine⟨(by show 0<=sizeLine;decide),fun pl pn=>?_⟩
    have hpb:pl ≠ b:=B1.b6 pn
    refine⟨_,rfl,_,rfl,(by omega),(by omega),fU (lo:=0) (fun i σ H'=>∃ (u1 u2 u3:Option V) (ps:List Piece) (vs:List V),σ = [some (.ref b),some (.int c),some (.int m),some (.ref l),some (.ref pl),u1,u2,u3] /\
      H' pl=some (.lst vs)/\aH H' vs (ps.map cz)/\ps.length=i/\(∀ p ∈ ps,(p.1.length<=m/\∀ d ∈ p.1,eZ xs d)/\j1 xs c p.2)/\b8 H' b l xs/\bx H' b/\Fix b H H'/\(∀ d o,H1 d=some o->d ≠ b->H' d=some o)) ?_ ?_ ?_⟩
    · exact⟨_,_,_,[],[],rfl,U,.nil,rfl,(fun _ h=>nomatch h),N1.fix (Fix.new pn),B1.new pn,X1.trans (Fix.new pn),Fix.new pn⟩
    · rintro i σ H' hi ⟨u1,u2,u3,ps,vs,rfl,hp,hr,hl,av,N',B',X',Y'⟩
      refine⟨_,rfl,_,rfl,_,_,rfl,rfl,b,_,rfl,B',⟨by omega,dI (by omega) (by omega)⟩,fun k H2 k0 k1 B2 X2=>?_⟩
      have N2:=N'.fix X2
      refine⟨_,rfl,_,rfl,_,rfl,b,l,xs,c,rfl,B2,N2,c0,(by omega),fun ev e H3 re ek B3 X3=>?_⟩
      have N3:=N2.fix X3
      have hp3:H3 pl=some (.lst vs):=(X2.trans X3) pl _ hp hpb
      have hr3:aH H3 vs (ps.map cz):=hr.fix B' (X2.trans X3) (aS ps)
      refine⟨_,rfl,.inl ⟨rfl,_,ax.of hp3⟩,_,rfl,_,rfl,(by omega),(by omega),fun acc na=>?_⟩
      have hab:acc ≠ b:=B3.b6 na
      refine fm (lo:=0) (fun i ys τ H'=>∃ (v:Option V) (ds:List b7),τ = [v,some (.ref b),some (.ref l)]/\aH H' ys (ds.map cD)/\ds.length=i/\(∀ d ∈ ds,eZ xs d)/\H' acc=some (.lst ys)/\bx H' b/\Fix b H3 H') ?_ ?_ ?_ ?_
      · exact⟨none,[],rfl,.nil,rfl,(fun _ h=>nomatch h),U,B3.new na,Fix.new na⟩
      · rintro i' ys τ H4 hi' ⟨v,ds,rfl,rds,hl',_,ha,_⟩
        refine⟨ha,?_⟩
        rw [rds.len,List.length_map]
        exact bA (by omega)
      · rintro i' ys τ H4 hi' ⟨v,ds,rfl,rds,hl',hdk,ha,B4,X4⟩
        refine b9 ?_
        refine nG ?_
        refine fj ?_
        refine⟨_,rfl,_,rfl,b,l,xs,rfl,B4,N3.fix X4,fun dv d H5 rd dk B5 X5=>?_⟩
        have ha5:=X5 acc _ ha hab
        refine⟨ha5,_,ds ++ [d],rfl,?_,(by rw [List.length_append,hl'];rfl),?_,U,?_,?_⟩
        · rw [List.map_append]
          refine aH.app ((rds.fix B4 X5 (aY ds)).put ha5 (aY ds)) ?_
          exact rd.bR (fun p zs e=>by rw [ae (bU e ha5 (by intro z;cases z))];exact e) (eO d)
        · intro d' hd
          rcases List.mem_append.mp hd with hd | hd
          · exact hdk d' hd
          · rw [List.mem_singleton.mp hd];exact dk
        · obtain⟨x,y,e,z⟩:=B5
          exact⟨x,y,by rw [ae hab.symm];exact e,z⟩
        · intro d' o hd nd
          rw [ae (aF hd na)]
          exact (X4.trans X5) d' o hd nd
      · rintro ys τ H4 ⟨v,ds,rfl,rds,hl',hdk,ha,B4,X4⟩
        refine⟨acc,ys,rfl,.inl ⟨ax.of ha,fun tp tn=>?_⟩⟩
        refine⟨_,rfl,ln2,fun pc pcn=>?_⟩
        have S6:ah H4 (upd (upd H4 tp (.tup ys)) pc (.tup [.ref tp,ev])):=(ah.new tn).trans (ah.new pcn)
        have hp6:(upd (upd H4 tp (.tup ys)) pc (.tup [.ref tp,ev])) pl=some (.lst vs):=S6 _ _ (X4 pl _ hp3 hpb)
        refine⟨pl,_,_,rfl,rfl,hp6,?_,?_⟩
        · rw [hr.len,List.length_map,hl]
          exact bA (by omega)
        have hpiece:aI (upd (upd H4 tp (.tup ys)) pc (.tup [.ref tp,ev])) (.ref pc) (cz (ds,e)):=by
          refine .tup U (.cons (.tup (ah.new pcn _ _ U) (rds.same S6 (aY ds))) (.cons ?_ .nil))
          exact (re.fix B3 X4 (dX e)).same S6 (dX e)
        have F6:Fix b H (upd (upd H4 tp (.tup ys)) pc (.tup [.ref tp,ev])):=((X'.trans (X2.trans X3)).trans X4).trans (Fix.of_same S6)
        have plH:∀ d o,H1 d=some o->d ≠ b->d ≠ pl:=fun d o hd nd z=>by rw [z,pn] at hd;cases hd
        refine⟨_,_,_,ps ++ [(ds,e)],vs ++ [.ref pc],rfl,U,?_,(by rw [List.length_append,hl];rfl),?_,?_,?_,?_,?_⟩
        · rw [List.map_append]
          refine aH.app (((hr3.fix B3 X4 (aS ps)).same S6 (aS ps)).put hp6 (aS ps)) ?_
          exact hpiece.bR (fun p zs e=>by rw [ae (bU e hp6 (by intro z;cases z))];exact e) (eC (ds,e))
        · intro p hpm
          rcases List.mem_append.mp hpm with hpm | hpm
          · exact av p hpm
          · rw [List.mem_singleton.mp hpm]
            exact⟨⟨by show ds.length<=m;omega,hdk⟩,ek⟩
        · have hll:l ≠ pl:=fun z=>by
            have:=N1.at_
            rw [z,pn] at this
            cases this
          have N6:=(N3.fix X4).fix (Fix.of_same (b:=b) S6)
          exact⟨by rw [ae hll];exact N6.at_,N6.ne,N6.j3,N6.cu,N6.ok⟩
        · obtain⟨x,y,e',z⟩:=B4.same S6
          exact⟨x,y,by rw [ae hpb.symm];exact e',z⟩
        · intro d o hd nd
          have h1:=X1 d o hd nd
          rw [ae (plH d o h1 nd)]
          exact F6 d o hd nd
        · intro d o hd nd
          rw [ae (plH d o hd nd)]
          exact S6 d o (X4 d o ((X2.trans X3) d o (Y' d o hd nd) nd) nd)
    · rintro σ H' ⟨u1,u2,u3,ps,vs,rfl,hp,hr,hl,av,N',B',X',Y'⟩
      have hl':ps.length=c:=by rw [hl];omega
      refine⟨_,rfl,pl,_,rfl,.inl ⟨ax.of hp,fun tp tn=>?_⟩⟩
      refine q (.ref tp) xs ps _ (.tup U (hr.same (ah.new tn) (aS ps))) hl' ⟨fun p hpm=>(av p hpm).1,fun p hpm=>?_⟩ ⟨N'.ok,x4⟩ (B'.new tn) (X'.trans (Fix.new tn))
      rw [hl']
      exact (av p hpm).2
theorem lI {f:Addr} {fd:FuncData} (F:b0 K "_law_count" "_law_count" eU f fd) (Z:Bl mg) (O_law_take:Own P w K mg base "_law_take" 1 ["bag", "many"] cU):bw P w K mg base bW 2 f fd ["bag", "most"] mJ:=by
 refine F.ok (k:=1) lG (fun vs H Q E h=>?_) (fun cdv A outer s H vs Q E hr h=>?_)
 ·obtain⟨b,m,rfl,_⟩:=h
  rfl
 ·obtain⟨b,m,rfl,hB,m0,m1,q⟩:=h
  refine⟨_,(af (aL (aC bD (b4 (fw (aG cn aa (ar O_law_take hr (aM (pv 0) (pv 1)))) (aG cn aa (ar O_law_take hr (aM (pv 0) (br (oy rfl) rfl Z.min tH (aM aa (pv 1)))))) (pv 1))) (ar O_law_take hr (aM (pv 0) aa))))),?_⟩
  refine⟨_,rfl,_,rfl,b,_,rfl,hB,⟨by omega,dI (by omega) (by omega)⟩,fun r H1 r0 r1 B1 X1=>⟨_,_,rfl,rfl,?_⟩⟩
  refine⟨_,rfl,_,rfl,_,_,rfl,b,_,rfl,B1,⟨(by split <;> omega),dI (by split <;> omega) (by split <;> omega)⟩,fun r2 H2 r20 r21 B2 X2=>⟨_,_,rfl,rfl,?_⟩⟩
  refine⟨_,rfl,qQ,fun l0 n0=>?_⟩
  refine⟨_,rfl,b,3,rfl,B2.new n0,⟨by decide,by decide +kernel⟩,fun z H3 z0 z1 B3 X3=>?_⟩
  have h0:H3 l0=some (.lst [.int (1+r),.int (1+r2),.int m]):=X3 l0 _ U (B2.b6 n0)
  have hr2:r2 < 4:=by
   have:=r21
   split at this <;> omega
  have F3:Fix b H H3:=((X1.trans X2).trans (Fix.new n0)).trans X3
  obtain rfl | rfl | rfl:z=0\/z=1\/z=2:=by omega
  ·refine⟨l0,_,0,_,rfl,rfl,ax.of h0,gZ,?_⟩
   have e:(1+r)=(((1+r).toNat:Nat):Int):=by omega
   rw [e]
   exact q _ H3 (by omega) (by omega) B3 F3
  ·refine⟨l0,_,1,_,rfl,rfl,ax.of h0,fI,?_⟩
   have e:(1+r2)=(((1+r2).toNat:Nat):Int):=by omega
   rw [e]
   exact q _ H3 (by omega) (by omega) B3 F3
  ·refine⟨l0,_,2,_,rfl,rfl,ax.of h0,at2,?_⟩
   exact q _ H3 m0 (by omega) B3 F3
theorem ma {f:Addr} {fd:FuncData} (F:b0 K "_law_ways" "_law_ways" fH f fd) (Z:Bl mg)  : bw P w K mg base bW 1 f fd ["end"] fu:=by
 refine F.ok (k:=0) lT (fun vs H Q E h=>?_) (fun cdv A outer s H vs Q E hr h=>?_)
 ·obtain⟨ea,e,rfl,_⟩:=h
  rfl
 ·obtain⟨ea,e,rfl,he,q⟩:=h
  refine⟨_,(ab (bL (aR cS (br bG rfl Z.len dH (au (pv 0))) aa (ba _))
   (af (aL (b4 (aM (aC bF (pv 0) aa) (aC bF (pv 0) aa)))))
   bb)
   (af (aL (aT fX rfl Z.list mF (au (ku mM (pv 0) (mB aa) mw)))))),?_⟩
  refine⟨_,rfl,ea,_,rfl,.inr (ay.of he),rfl,_,rfl,?_⟩
  cases e with
  | stop =>
   refine cw (show decide (V.int ((1:Nat):Int)=V.int 5)=false by decide +kernel) ?_
   refine⟨_,rfl,_,rfl,ea,_,rfl,ay.of he,fun hw=>absurd hw.1 (by decide),fun _ p hp=>⟨p,_,rfl,.inr (ay.of U),fun l nl=>q l _ ((ah.new hp).free nl) U ((ah.new hp).trans (ah.new nl))⟩⟩
  | go p1 =>
   refine cw (show decide (V.int ((2:Nat):Int)=V.int 5)=false by decide +kernel) ?_
   refine⟨_,rfl,_,rfl,ea,_,rfl,ay.of he,fun hw=>absurd hw.1 (by show ¬ HT.aO 2 0 (some 1)=0;decide),fun _ p hp=>⟨p,_,rfl,.inr (ay.of U),fun l nl=>q l _ ((ah.new hp).free nl) U ((ah.new hp).trans (ah.new nl))⟩⟩
  | dr b x n p1 p2 =>
   refine eG (show decide (V.int ((5:Nat):Int)=V.int 5)=true by decide +kernel) ?_
   refine⟨_,rfl,ea,_,3,_,rfl,rfl,ay.of he,bg (j:=3) rfl,_,rfl,ea,_,4,_,rfl,rfl,ay.of he,bg (j:=4) rfl,ln2,fun l nl=>q l _ nl U (ah.new nl)⟩
theorem iE {f:Addr} {fd:FuncData} (F:b0 K "_law_all_names" "_law_all_names" dg f fd) (Z:Bl mg)  : bw P w K mg base bW 1 f fd ["plan"] pD:=by
 refine F.ok (k:=0) bQ (fun vs H Q E h=>?_) (fun cdv A outer s H vs Q E hr h=>?_)
 ·obtain⟨plv,ps,xs,m,rfl,_⟩:=h
  rfl
 ·obtain⟨plv,ps,xs,m,rfl,hp,pok,hx64,q⟩:=h
  refine⟨_,(ab (aJ (i:=1) bQ.nd kL)
   (ab (bV PassesOwn.never rfl (dD (pv 0)) (iL rfl (cx (aX (i:=2) bQ.nd) (cx (aX (i:=3) bQ.nd) gI)))
   (ab (bV PassesOwn.never rfl (dD (pv 2)) (aX (i:=4) bQ.nd)
   (ab (gN (jZ hr) (pv 1) (aC bF (pv 4) aa) gG rfl)
   (af (bL (aR cS (aC bF (pv 4) aa) aZ (ba _))
   (af (gN (jZ hr) (pv 1) (aC bF (pv 4) aa) gG rfl))
   bb))))
   (af (bL (aR cS (br bG rfl Z.len dH (au (pv 3))) aa (ba _))
   (af (gN (jZ hr) (pv 1) (aC bF (pv 3) aa) gG rfl))
   bb))))
   (af (aL (br (kN rfl) rfl Z.sorted cO (au (pv 1))))))),?_⟩
  obtain⟨pp,vs,rfl,e1,r⟩:=aI.bJ hp
  have hl:=r.len
  refine fun nm nn=>?_
  have s0:=ah.new (o:=.dK []) nn
  have kl:∀ (i:Nat) (ds:List b7) (kvs:List (Key × V)) (ns:List Str),(∀ x ∈ ns,x ∈ xs)->KeysAre kvs ns->kvs.length < sizeLine:=fun i ds kvs ns hn h=>by
   have:=qG hn
   rw [h.len]
   exact bA (by omega)
  refine⟨_,rfl,pp,rfl,⟨_,ay.of (s0 _ _ e1)⟩,cM (K:=K) (a:=pp) (xs:=vs) (fun i σ H'=>∃ (kvs:List (Key × V)) (u1 u2 u3:Option V),σ = [some (.ref pp),some (.ref nm),u1,u2,u3]/\H' nm=some (.dK kvs)/\KeysAre kvs (aw (ps.take i))/\ah H H') ?_ ?_ ?_ ?_⟩
  ·exact⟨[],_,_,_,rfl,U,rfl,s0⟩
  ·rintro i σ H1 hi ⟨kvs,u1,u2,u3,rfl,h1,k1,s1⟩
   exact ay.of (s1 _ _ e1)
  ·rintro i x σ H1 hi ⟨kvs,u1,u2,u3,rfl,h1,k1,s1⟩
   have hlt:i < ps.length:=by
    have:=(List.getElem?_eq_some_iff.mp hi).1
    rw [hl,List.length_map] at this
    exact this
   have hpi:ps[i]? = some ps[i]:=by simp [hlt]
   generalize ps[i] = pe at hpi
   obtain⟨ds,e⟩:=pe
   have hnext:=eJ (f:=pNames) hpi
   have hin:∀ x ∈ aw (ps.take (i+1)),x ∈ xs:=fun x hx=>by
    refine gr pok x ?_
    obtain⟨p,hp',hx'⟩:=List.mem_flatMap.mp hx
    exact List.mem_flatMap.mpr ⟨p,List.mem_of_mem_take hp',hx'⟩
   have hin':∀ y,y ∈ aw (ps.take i)\/y ∈ ds.flatMap aQ\/y ∈ cF e->y ∈ xs:=fun y hy=>by
    refine hin y ?_
    unfold aw at hy ⊢
    rw [hnext,List.mem_append]
    unfold pNames at hy ⊢
    rcases hy with h | h
    ·exact .inl h
    ·exact .inr (List.mem_append.mpr h)
   obtain⟨p',xs',pc,da,ea,ws,ep,e1',el',hx',e2,e3,r3,e4⟩:=cK hp hpi
   cases ep
   rw [e1] at e1'
   cases e1'
   rw [hi] at hx'
   cases hx'
   refine⟨pc,_,rfl,ay.of (s1 _ _ e2),rfl,_,_,rfl,_,_,rfl,rfl,?_⟩
   refine⟨_,rfl,da,rfl,⟨_,ay.of (s1 _ _ e3)⟩,cM (K:=K) (a:=da) (xs:=ws) (fun j σ H'=>∃ (kvs:List (Key × V)) (u3:Option V),σ = [some (.ref pp),some (.ref nm),some (.ref da),some (.ref ea),u3]/\H' nm=some (.dK kvs)/\KeysAre kvs (aw (ps.take i)++(ds.take j).flatMap aQ)/\ah H H') ?_ ?_ ?_ ?_⟩
   ·exact⟨kvs,_,rfl,h1,by simpa using k1,s1⟩
   ·rintro j σ H2 hj ⟨kvs2,u3',rfl,h2,k2,s2⟩
    exact ay.of (s2 _ _ e3)
   ·rintro j y σ H2 hj ⟨kvs2,u3',rfl,h2,k2,s2⟩
    have hjl:j < ds.length:=by
     have:=(List.getElem?_eq_some_iff.mp hj).1
     rw [r3.len,List.length_map] at this
     exact this
    have hdj:ds[j]? = some ds[j]:=by simp [hjl]
    generalize ds[j] = dd at hdj
    obtain⟨v,hv,rd⟩:=r3.get (i:=j) (d:=cD dd) (by rw [List.getElem?_map,hdj];rfl)
    rw [hj] at hv
    cases hv
    obtain⟨dp,rfl,hdp⟩:=mL rd
    have hdp2:=s2 _ _ hdp
    have ndp:dp ≠ nm:=bU hdp2 h2 (by intro z;cases z)
    have hnj:=eJ (f:=aQ) hdj
    have hinj:∀ y ∈ aw (ps.take i)++(ds.take j).flatMap aQ,y ∈ xs:=fun y hy=>by
     rcases List.mem_append.mp hy with h | h
     ·exact hin' y (.inl h)
     ·obtain⟨d',hd',h'⟩:=List.mem_flatMap.mp h
      exact hin' y (.inr (.inl (List.mem_flatMap.mpr ⟨d',List.mem_of_mem_take hd',h'⟩)))
    have hmd:∀ y ∈ aQ dd,y ∈ xs:=fun y hy=>hin' y (.inr (.inl (List.mem_flatMap.mpr ⟨dd,List.mem_of_getElem? hdj,hy⟩)))
    have e1d:∃ tl,aQ dd=cX dd :: tl:=by cases dd <;> exact⟨_,rfl⟩
    refine b9 ?_
    refine⟨_,rfl,_,rfl,dp,_,1,_,rfl,rfl,ay.of hdp2,ql dd,nm,_,rfl,gd.k (k:=Sum.inr (cX dd)) h2 (kl i ds _ _ hinj k2),?_⟩
    have k3:=k2.put (cX dd) (.bl true)
    have h3:(upd H2 nm (.dK (putK kvs2 (Sum.inr (cX dd)) (.bl true)))) nm=some (.dK (putK kvs2 (Sum.inr (cX dd)) (.bl true))):=U
    have hdp3:(upd H2 nm (.dK (putK kvs2 (Sum.inr (cX dd)) (.bl true)))) dp=some (.tup (iW dd)):=by rw [ae ndp];exact hdp2
    have s3:ah H (upd H2 nm (.dK (putK kvs2 (Sum.inr (cX dd)) (.bl true)))):=s2.put nn
    generalize (upd H2 nm (.dK (putK kvs2 (Sum.inr (cX dd)) (.bl true))))=H3 at h3 hdp3 s3
    refine⟨_,rfl,dp,_,0,_,rfl,rfl,ay.of hdp3,(by cases dd <;> exact gZ:dq (iW dd) 0=some (V.str (wD dd))),rfl,_,rfl,?_⟩
    have one:aQ dd = [cX dd]->KeysAre (putK kvs2 (Sum.inr (cX dd)) (.bl true)) (aw (ps.take i)++(ds.take (j+1)).flatMap aQ):=fun e=>by
     rw [hnj,e,<-List.append_assoc];exact k3
    cases dd with
    | put a n=>exact cw (show decide (V.str "put" = V.str "copy")=false by decide +kernel) ⟨_,_,rfl,h3,one rfl,s3⟩
    | add a n=>exact cw (show decide (V.str "add" = V.str "copy")=false by decide +kernel) ⟨_,_,rfl,h3,one rfl,s3⟩
    | read a=>exact cw (show decide (V.str "read" = V.str "copy")=false by decide +kernel) ⟨_,_,rfl,h3,one rfl,s3⟩
    | tell a=>exact cw (show decide (V.str "tell" = V.str "copy")=false by decide +kernel) ⟨_,_,rfl,h3,one rfl,s3⟩
    | copy a c =>
     refine eG (show decide (V.str "copy" = V.str "copy")=true by decide +kernel) ?_
     have hin3:∀ y ∈ (aw (ps.take i)++(ds.take j).flatMap aQ) ++ [a],y ∈ xs:=fun y hy=>by
      rcases List.mem_append.mp hy with h | h
      ·exact hinj y h
      ·rw [List.mem_singleton.mp h];exact hmd a (List.mem_cons_self ..)
     refine⟨_,rfl,_,rfl,dp,_,2,_,rfl,rfl,ay.of hdp3,at2,nm,_,rfl,gd.k (k:=Sum.inr c) h3 (kl i ds _ _ hin3 k3),?_⟩
     refine⟨_,_,rfl,U,?_,s3.put nn⟩
     rw [hnj,show aQ (.copy a c) = [a] ++ [c] from rfl,<-List.append_assoc,<-List.append_assoc]
     exact k3.put c (.bl true)
   ·rintro σ H2 ⟨kvs2,u3',rfl,h2,k2,s2⟩
    rw [show ws.length=ds.length by rw [r3.len,List.length_map],List.take_length] at k2
    have e42:=s2 _ _ e4
    refine⟨_,rfl,ea,_,rfl,.inr (ay.of e42),rfl,_,rfl,?_⟩
    have none_:cF e = []->KeysAre kvs2 (aw (ps.take (i+1))):=fun z=>by
     unfold aw at k2 ⊢
     rw [hnext]
     simp only [pNames,z,List.append_nil]
     exact k2
    cases e with
    | stop =>
     refine cw (show decide (V.int ((1:Nat):Int)=V.int 5)=false by decide +kernel) ?_
     exact⟨kvs2,_,_,_,rfl,h2,none_ rfl,s2⟩
    | go q1 =>
     refine cw (show decide (V.int ((2:Nat):Int)=V.int 5)=false by decide +kernel) ?_
     exact⟨kvs2,_,_,_,rfl,h2,none_ rfl,s2⟩
    | dr b x n q1 q2 =>
     refine eG (show decide (V.int ((5:Nat):Int)=V.int 5)=true by decide +kernel) ?_
     have hine:∀ y ∈ aw (ps.take i)++ds.flatMap aQ,y ∈ xs:=fun y hy=>by
      rcases List.mem_append.mp hy with h | h
      ·exact hin' y (.inl h)
      ·exact hin' y (.inr (.inl h))
     refine⟨_,rfl,_,rfl,ea,_,1,_,rfl,rfl,ay.of e42,fI,nm,_,rfl,gd.k (k:=Sum.inr x) h2 (kl i ds _ _ hine k2),?_⟩
     refine⟨_,_,_,_,rfl,U,?_,s2.put nn⟩
     have k3:=k2.put x (.bl true)
     unfold aw at k3 ⊢
     rw [hnext]
     simp only [pNames,cF]
     rw [<-List.append_assoc]
     exact k3
  ·rintro σ H1 ⟨kvs,u1,u2,u3,rfl,h1,k1,s1⟩
   rw [show vs.length=ps.length by rw [hl,List.length_map],List.take_length] at k1
   have hf:=lh pok
   refine⟨_,rfl,nm,kvs,LS.aV (aw ps),rfl,h1,k1,(by omega),fun l ss hperm hs hn=>?_⟩
   exact q l ss _ U hperm hs (by rw [hperm.length_eq];omega) (s1.trans (ah.new hn))
theorem jA {f:Addr} {fd:FuncData} (F:b0 K "_law_reached" "_law_reached" dP f fd) (Z:Bl mg) (O_law_ways:Own P w K mg base "_law_ways" 1 ["end"] fu):bw P w K mg base bW 3 f fd ["plan"] gu:=by
  refine F.ok (k:=2) cc (fun vs H Q E h=>?_) (fun cdv A outer s H vs Q E hr h=>?_)
  · obtain⟨plv,ps,rfl,_⟩:=h
    rfl
  · obtain⟨plv,ps,rfl,hp,hin,hn0,hn,q⟩:=h
    refine⟨_,(ab (aJ (i:=1) cc.nd (b4 (au aa)))
      (ab (aJ (i:=2) cc.nd aa)
      (ab (kj PassesOwn.never (aR jY (pv 2) (br bG rfl Z.len dH (au (pv 1))) (ba _))
      (ab (bV PassesOwn.never rfl (je (ar O_law_ways hr (au (aC bF (aC bF (pv 0) (aC bD (pv 1) (pv 2))) aa)))) (aX (i:=3) cc.nd)
      (af (bL (aR fW (pv 3) (pv 1) (by with_unfolding_all rfl))
      (af (cC (dW PySem.F.plainAttrs_list PySem.F.slot_list_append PySem.F.type_list_append cN (pv 1) (au (pv 3)))))
      bb)))
      (af (aJ (i:=2) cc.nd (aG cn (pv 2) aa)))))
      (af (aL (br (ju) rfl Z.sorted cO (au (pv 1)))))))),?_⟩
    obtain⟨pp,vs,rfl,e1,r1⟩:=aI.bJ hp
    have hvl:=r1.len
    rw [List.length_map] at hvl
    refine⟨tJ,fun fl nfl=>?_⟩
    have s1:=ah.new (o:=.lst [.int 0]) nfl
    have hf1:(upd H fl (.lst [.int 0])) fl=some (.lst (vN [0])):=U
    generalize (upd H fl (.lst [.int 0]))=H1 at s1 hf1
    refine⟨fun m σ H'=>∃ (ks:List Nat) (at_:Nat) (u:Option V),σ = [some (.ref pp),some (.ref fl),some (.int (at_:Nat)),u]/\H' fl=some (.lst (vN ks))/\ks.Nodup/\(∀ k ∈ ks,k < ps.length)/\(∀ k ∈ ks,dN ps k)/\0 ∈ ks/\at_<=ks.length/\(∀ k ∈ ks.take at_,∀ ds e,ps[k]? = some (ds,e)->∀ j ∈ aB e,j ∈ ks)/\m=ps.length - at_/\ah H H',⟨_,[0],0,_,rfl,hf1,by simp,(fun k hk=>by rw [List.mem_singleton.mp hk];exact hn0),(fun k hk=>by rw [List.mem_singleton.mp hk];exact .zero),by simp,Nat.zero_le _,(fun k hk=>by simp at hk),rfl,s1⟩,?_⟩
    rintro m σ H2 ⟨ks,at_,u,rfl,hf2,nd,lt,lr,h0,hak,hcl,hm,s2⟩
    have hkn:=bX nd lt
    have hvl2:(vN ks).length=ks.length:=List.length_map ..
    refine⟨_,rfl,_,rfl,fl,_,rfl,.inl (ax.of hf2),_,_,rfl,rfl,_,rfl,?_⟩
    refine dM (fun hc=>?_) (fun hc=>?_)
    · have hlt:at_ < ks.length:=by have:=of_decide_eq_true hc;omega
      have hki:ks[at_]? = some ks[at_]:=by simp [hlt]
      generalize ks[at_] = kk at hki
      have hkm:=List.mem_of_getElem? hki
      have hkb:=lt kk hkm
      have hps:ps[kk]? = some ps[kk]:=by simp [hkb]
      generalize ps[kk] = pce at hps
      obtain⟨ds,e⟩:=pce
      obtain⟨p',xs',pc,da,ea,wsv,ep,e1',el',hx',e2,e3,r3,e4⟩:=cK hp hps
      cases ep
      rw [e1] at e1'
      cases e1'
      refine⟨_,fun σ' H' h=>⟨ps.length - (at_+1),by omega,h⟩,?_⟩
      refine⟨_,rfl,_,rfl,_,rfl,fl,_,_,_,rfl,rfl,ax.of hf2,bg (by rw [List.getElem?_map,hki];rfl),pp,_,_,_,rfl,rfl,ay.of (s2 _ _ e1),bg hx',pc,_,1,_,rfl,rfl,ay.of (s2 _ _ e2),fI,ea,e,rfl,s2 _ _ e4,fun wl H5 nwl hwl s5=>?_⟩
      have nfw:fl ≠ wl:=aF hf2 nwl
      have hf5:=s5 _ _ hf2
      refine⟨wl,rfl,⟨_,ax.of hwl⟩,ik (K:=K) (a:=wl) (xs:=vN (aB e)) (fun i σ H'=>∃ (ks':List Nat) (more:List Nat) (u:Option V),σ = [some (.ref pp),some (.ref fl),some (.int (at_:Nat)),u]/\H' fl=some (.lst (vN ks'))/\ks' = ks++more/\ks'.Nodup/\(∀ k ∈ ks',k < ps.length)/\(∀ k ∈ ks',dN ps k)/\(∀ k ∈ (aB e).take i,k ∈ ks')/\(∀ c o,H5 c=some o->c ≠ fl->H' c=some o)) ?_ ?_ ?_ ?_⟩
      · exact⟨ks,[],_,rfl,hf5,by rw [List.append_nil],nd,lt,lr,(fun k hk=>by simp at hk),fun c o h _=>h⟩
      · rintro i σ H6 hi ⟨ks',more,u,rfl,g1,g2,g3,g4,g5,g6,g7⟩
        exact ax.of (g7 _ _ hwl nfw.symm)
      · rintro i y σ H6 hi ⟨ks',more,u,rfl,g1,rfl,g3,g4,g5,g6,g7⟩
        obtain⟨k0,hk0,rfl⟩:∃ k,(aB e)[i]? = some k/\y=V.int (k:Nat):=by
          rw [List.getElem?_map] at hi
          cases z:(aB e)[i]? with
          | none=>rw [z] at hi;cases hi
          | some k=>rw [z] at hi;exact⟨k,rfl,(Option.some.inj hi).symm⟩
        have hk0m:=List.mem_of_getElem? hk0
        have hk0b:=gQ hin hps k0 hk0m
        have htk:(aB e).take (i+1)=(aB e).take i ++ [k0]:=by rw [List.take_add_one,hk0];rfl
        refine b9 ?_
        refine⟨_,rfl,_,rfl,fl,_,rfl,.inl (ax.of g1),rfl,rT _,_,rfl,?_⟩
        rw [show (if true=true then !mE (.int (k0:Nat)) (vN (ks++more)) else mE (.int (k0:Nat)) (vN (ks++more))) = !decide (k0 ∈ ks++more) from congrArg (!·) (mW k0 _)]
        by_cases hm0:k0 ∈ ks++more
        · refine cw (by rw [decide_eq_true hm0];rfl) ?_
          refine⟨_,more,_,rfl,g1,rfl,g3,g4,g5,fun k hk=>?_,g7⟩
          rw [htk] at hk
          rcases List.mem_append.mp hk with hk | hk
          · exact g6 k hk
          · rw [List.mem_singleton.mp hk];exact hm0
        · refine eG (by rw [decide_eq_false hm0];rfl) ?_
          have hfew:=bX g3 g4
          refine⟨_,rfl,.inl ⟨rfl,_,ax.of g1⟩,_,rfl,fl,_,_,rfl,rfl,g1,bA (by rw [List.length_map];omega),?_⟩
          refine⟨ks++(more ++ [k0]),more ++ [k0],_,rfl,?_,rfl,?_,fun k hk=>?_,fun k hk=>?_,fun k hk=>?_,fun c o h c1=>by rw [ae c1];exact g7 c o h c1⟩
          · rw [U]
            show _=some (HO.lst ((ks++(more ++ [k0])).map _))
            rw [<-List.append_assoc,List.map_append]
            rfl
          · rw [<-List.append_assoc,List.nodup_append]
            refine⟨g3,by simp,fun x hx y hy z=>?_⟩
            rw [List.mem_singleton.mp hy] at z
            exact hm0 (z ▸ hx)
          · rw [<-List.append_assoc] at hk
            rcases List.mem_append.mp hk with hk | hk
            · exact g4 k hk
            · rw [List.mem_singleton.mp hk];exact hk0b
          · rw [<-List.append_assoc] at hk
            rcases List.mem_append.mp hk with hk | hk
            · exact g5 k hk
            · rw [List.mem_singleton.mp hk];exact .step (lr kk hkm) hps hk0m
          · rw [htk] at hk
            rw [<-List.append_assoc]
            rcases List.mem_append.mp hk with hk | hk
            · exact List.mem_append_left _ (g6 k hk)
            · exact List.mem_append_right _ hk
      · rintro σ H6 ⟨ks',more,u,rfl,g1,rfl,g3,g4,g5,g6,g7⟩
        rw [show (vN (aB e)).length=(aB e).length from List.length_map ..,List.take_length] at g6
        refine⟨_,rfl,_,_,rfl,rfl,?_⟩
        refine⟨ks++more,at_+1,_,rfl,g1,g3,g4,g5,List.mem_append_left _ h0,(by rw [List.length_append];omega),fun k hk ds' e' he' j hj=>?_,rfl,fun c o h=>g7 c o (s5 _ _ (s2 c o h)) (aF h nfl)⟩
        rw [List.take_append_of_le_length (by omega),List.take_add_one,hki] at hk
        rcases List.mem_append.mp hk with hk | hk
        · exact List.mem_append_left _ (hcl k hk ds' e' he' j hj)
        · have hk:k=kk:=List.mem_singleton.mp hk
          subst hk
          rw [hps] at he'
          cases he'
          exact g6 j hj
    · have hge:ks.length<=at_:=by
        by_cases z:at_ < ks.length
        · exact absurd (decide_eq_true (by omega)) hc
        · omega
      have all:∀ k,k ∈ ks ↔ dN ps k:=fun k=>by
        refine⟨lr k,fun r=>?_⟩
        induction r with
        | zero=>exact h0
        | step r hp' hk ih=>exact hcl _ (by rw [List.take_of_length_le hge];exact ih) _ _ hp' _ hk
      refine⟨_,rfl,fl,ks.map (fun k:Nat=>(k:Int)),rfl,(by rw [<-gs];exact ax.of hf2),(by rw [List.length_map];omega),fun l ns' hperm hsrt nl=>?_⟩
      obtain⟨ms,rfl,hms⟩:=cY hperm
      rw [<-gs]
      exact q l ms _ U (fun k=>(hms.mem_iff).trans (all k)) (fun k hk=>lt k (hms.mem_iff.mp hk)) (fz hsrt (hms.nodup_iff.mpr nd)) (s2.trans (ah.new nl))
theorem lJ {f:Addr} {fd:FuncData} (F:b0 K "_law_heads" "_law_heads" eV f fd) (Z:Bl mg) (O_law_reached:Own P w K mg base "_law_reached" 3 ["plan"] gu) (O_law_ways:Own P w K mg base "_law_ways" 1 ["end"] fu):bw P w K mg base bW 4 f fd ["plan"] jS:=by
 refine F.ok (k:=3) dh (fun vs H Q E h=>?_) (fun cdv A outer s H vs Q E hr h=>?_)
 ·obtain⟨plv,ps,rfl,_⟩:=h
  rfl
 ·obtain⟨plv,ps,rfl,hp,hin,hn0,hn,q⟩:=h
  refine⟨_,(ab (aJ (i:=1) dh.nd kL)
   (ab (bV PassesOwn.never rfl (je (ar O_law_reached hr (au (pv 0)))) (aX (i:=2) dh.nd)
   (af (bV PassesOwn.never rfl (je (ar O_law_ways hr (au (aC bF (aC bF (pv 0) (pv 2)) aa)))) (aX (i:=3) dh.nd)
   (af (bL (aR qN (pv 3) (pv 2) (ba _))
   (af (gN (jZ hr) (pv 1) (pv 3) gG rfl))
   bb)))))
   (af (aL (br (jv rfl) rfl Z.sorted cO (au (pv 1))))))),?_⟩
  obtain⟨pp,vs,rfl,e1,r1⟩:=aI.bJ hp
  have hvl:=r1.len
  rw [List.length_map] at hvl
  refine fun fd nfd=>?_
  have s1:=ah.new (o:=.dK []) nfd
  have hf1:(upd H fd (.dK [])) fd=some (.dK []):=U
  generalize (upd H fd (.dK []))=H1 at s1 hf1
  refine⟨_,rfl,_,ps,rfl,hp.same s1 (eQ ps),hin,hn0,hn,fun t ks H2 ht hks hlt hkl s2=>?_⟩
  have hf2:=s2 _ _ hf1
  have s12:=s1.trans s2
  have ntf:t ≠ fd:=bU ht hf2 (by intro z;cases z)
  refine⟨t,rfl,⟨_,ax.of ht⟩,ik (K:=K) (a:=t) (xs:=vN ks) (fun i σ H'=>∃ (hs:List Nat) (kvs:List (Key × V)) (u1 u2:Option V),σ = [some (.ref pp),some (.ref fd),u1,u2]/\H' fd=some (.dK kvs)/\kvs.map (·.1)=kI hs/\hs.Nodup/\(∀ k ∈ hs,k < ps.length)/\(∀ k,k ∈ hs ↔ ∃ j ∈ ks.take i,∃ ds e,ps[j]? = some (ds,e)/\k ∈ aB e/\k<=j)/\(∀ c o,H2 c=some o->c ≠ fd->H' c=some o)) ?_ ?_ ?_ ?_⟩
  ·exact⟨[],[],_,_,rfl,hf2,rfl,List.nodup_nil,(fun _ h=>nomatch h),fun k=>⟨fun h=>(nomatch h),fun ⟨j,hj,_⟩=>(by simp at hj)⟩,fun c o h _=>h⟩
  ·rintro i σ H3 hi ⟨hs,kvs,u1,u2,rfl,h1,hk1,h2,h3,h4,h5⟩
   exact ax.of (h5 _ _ ht ntf)
  ·rintro i y σ H3 hi ⟨hs,kvs,u1,u2,rfl,h1,hk1,h2,h3,h4,h5⟩
   obtain⟨at_,hat,rfl⟩:∃ k,ks[i]? = some k/\y=V.int (k:Nat):=by
    rw [List.getElem?_map] at hi
    cases z:ks[i]? with
    | none=>rw [z] at hi;cases hi
    | some k=>rw [z] at hi;exact⟨k,rfl,(Option.some.inj hi).symm⟩
   have hatl:=hlt at_ (List.mem_of_getElem? hat)
   have hps:ps[at_]? = some ps[at_]:=by simp [hatl]
   generalize ps[at_] = pce at hps
   obtain⟨ds,e⟩:=pce
   obtain⟨p',xs',pc,da,ea,wsv,ep,e1',el',hx',e2,e3,r3,e4⟩:=cK hp hps
   cases ep
   rw [e1] at e1'
   cases e1'
   have k3:∀ p zs,H p=some (.tup zs)->H3 p=some (.tup zs):=fun p zs h=>h5 _ _ (s12 _ _ h) (bU (s12 _ _ h) hf2 (by intro z;cases z))
   refine b9 ?_
   refine⟨_,rfl,_,rfl,pp,_,_,_,rfl,rfl,ay.of (k3 _ _ e1),bg hx',pc,_,1,_,rfl,rfl,ay.of (k3 _ _ e2),fI,ea,e,rfl,k3 _ _ e4,fun wt H5 nwt hwt s5=>?_⟩
   have nwf:wt ≠ fd:=bU hwt (s5 _ _ h1) (by intro z;cases z)
   refine⟨wt,rfl,⟨_,ax.of hwt⟩,ik (K:=K) (a:=wt) (xs:=vN (aB e)) (fun j σ H'=>∃ (hs':List Nat) (kvs:List (Key × V)) (u2:Option V),σ = [some (.ref pp),some (.ref fd),some (.int (at_:Nat)),u2]/\H' fd=some (.dK kvs)/\kvs.map (·.1)=kI hs'/\hs'.Nodup/\(∀ k ∈ hs',k < ps.length)/\(∀ k,k ∈ hs' ↔ k ∈ hs\/(k ∈ (aB e).take j/\k<=at_))/\(∀ c o,H5 c=some o->c ≠ fd->H' c=some o)) ?_ ?_ ?_ ?_⟩
   ·exact⟨hs,kvs,_,rfl,s5 _ _ h1,hk1,h2,h3,fun k=>⟨.inl,fun h=>h.elim id fun ⟨z,_⟩=>(by simp at z)⟩,fun c o h _=>h⟩
   ·rintro j σ H6 hj ⟨hs',kvs',u2,rfl,g1,gk,g2,g3,g4,g5⟩
    exact ax.of (g5 _ _ hwt nwf)
   ·rintro j y σ H6 hj ⟨hs',kvs',u2,rfl,g1,gk,g2,g3,g4,g5⟩
    obtain⟨k0,hk0,rfl⟩:∃ k,(aB e)[j]? = some k/\y=V.int (k:Nat):=by
     rw [List.getElem?_map] at hj
     cases z:(aB e)[j]? with
     | none=>rw [z] at hj;cases hj
     | some k=>rw [z] at hj;exact⟨k,rfl,(Option.some.inj hj).symm⟩
    have hk0m:=List.mem_of_getElem? hk0
    have hk0b:=gQ hin hps k0 hk0m
    have htk:(aB e).take (j+1)=(aB e).take j ++ [k0]:=by rw [List.take_add_one,hk0];rfl
    have hkl':kvs'.length=hs'.length:=by have:=congrArg List.length gk;simpa using this
    refine b9 ?_
    refine⟨_,rfl,_,rfl,_,_,rfl,rfl,_,rfl,?_⟩
    refine dM (fun hc=>?_) (fun hc=>?_)
    ·have hle:k0<=at_:=by have:=of_decide_eq_true hc;omega
     have hfew:=bX g2 g3
     refine⟨_,rfl,_,rfl,fd,_,rfl,gd.k (k:=Sum.inl (k0:Int)) g1 (bA (by omega)),?_⟩
     refine⟨LS.putIn hs' k0,_,_,rfl,U,?_,lj g2,fun k hk=>?_,fun k=>?_,fun c o h c1=>by rw [ae c1];exact g5 c o h c1⟩
     ·rw [<-lq]
      unfold LS.putIn
      rcases jN (kvs:=kvs') (k:=(Sum.inl (k0:Int):Key)) (v:=.bl true) with ⟨e1,hm⟩ | ⟨e1,hn'⟩
      ·rw [gk] at hm
       rw [if_pos hm,e1,gk]
      ·rw [gk] at hn'
       rw [if_neg hn',e1,gk]
     ·rcases LS.dJ.mp hk with hk | hk
      ·exact g3 k hk
      ·rw [hk];exact hk0b
     ·rw [LS.dJ,g4,htk]
      constructor
      ·rintro ((h | ⟨h,h'⟩) | rfl)
       ·exact .inl h
       ·exact .inr ⟨List.mem_append_left _ h,h'⟩
       ·exact .inr ⟨List.mem_append_right _ (List.mem_singleton.mpr rfl),hle⟩
      ·rintro (h | ⟨h,h'⟩)
       ·exact .inl (.inl h)
       ·rcases List.mem_append.mp h with h | h
        ·exact .inl (.inr ⟨h,h'⟩)
        ·exact .inr (List.mem_singleton.mp h)
    ·have hle:¬ k0<=at_:=fun z=>hc (decide_eq_true (by omega))
     refine⟨hs',kvs',_,rfl,g1,gk,g2,g3,fun k=>?_,g5⟩
     rw [g4,htk]
     constructor
     ·rintro (h | ⟨h,h'⟩)
      ·exact .inl h
      ·exact .inr ⟨List.mem_append_left _ h,h'⟩
     ·rintro (h | ⟨h,h'⟩)
      ·exact .inl h
      ·rcases List.mem_append.mp h with h | h
       ·exact .inr ⟨h,h'⟩
       ·rw [List.mem_singleton.mp h] at h';exact absurd h' hle
   ·rintro σ H6 ⟨hs',kvs',u2,rfl,g1,gk,g2,g3,g4,g5⟩
    rw [show (vN (aB e)).length=(aB e).length from List.length_map ..,List.take_length] at g4
    refine⟨hs',kvs',_,_,rfl,g1,gk,g2,g3,fun k=>?_,fun c o h c1=>g5 c o (s5 _ _ (h5 c o h c1)) c1⟩
    rw [g4,h4,List.take_add_one,hat]
    constructor
    ·rintro (⟨j,hj,r⟩ | ⟨h,h'⟩)
     ·exact⟨j,List.mem_append_left _ hj,r⟩
     ·exact⟨at_,List.mem_append_right _ (List.mem_singleton.mpr rfl),ds,e,hps,h,h'⟩
    ·rintro⟨j,hj,ds',e',hp',h,h'⟩
     rcases List.mem_append.mp hj with hj | hj
     ·exact .inl ⟨j,hj,ds',e',hp',h,h'⟩
     ·have hj:j=at_:=List.mem_singleton.mp hj
      subst hj
      rw [hps] at hp'
      cases hp'
      exact .inr ⟨h,h'⟩
  ·rintro σ H3 ⟨hs,kvs,u1,u2,rfl,h1,hk1,h2,h3,h4,h5⟩
   rw [show (vN ks).length=ks.length from List.length_map ..,List.take_length] at h4
   have hfew:=bX h2 h3
   refine⟨_,rfl,fd,kvs,hs.map (fun k:Nat=>(k:Int)),rfl,h1,(by rw [hk1,jt]),(by rw [List.length_map];omega),fun l ss hperm hsrt nl=>?_⟩
   obtain⟨ms,rfl,hms⟩:=cY hperm
   rw [<-gs]
   have s3:ah H H3:=fun c o h=>h5 c o (s12 c o h) (aF h nfd)
   refine q l ms _ U (fun k=>(hms.mem_iff).trans ((h4 k).trans ?_)) (fz hsrt (hms.nodup_iff.mpr h2)) (s3.trans (ah.new nl))
   constructor
   ·rintro⟨j,hj,ds,e,r1,r2,r3⟩
    exact⟨j,ds,e,(hks j).mp hj,r1,r2,r3⟩
   ·rintro⟨j,ds,e,hj,r1,r2,r3⟩
    exact⟨j,(hks j).mpr hj,ds,e,r1,r2,r3⟩
theorem iF {f:Addr} {fd:FuncData} (F:b0 K "_law_wide_plan" "_law_wide_plan" di f fd) (Z:Bl mg) (O_law_take:Own P w K mg base "_law_take" 1 ["bag", "many"] cU) (O_law_deed:Own P w K mg base "_law_deed" 3 ["bag", "names"] kC) (O_law_end:Own P w K mg base "_law_end" 3 ["bag", "names", "count"] kF):bw P w K mg base bW 4 f fd ["bag", "count"] mX:=by
  refine F.ok (k:=3) bt (fun vs H Q E h=>?_) (fun cdv A outer s H vs Q E hr h=>?_)
  · obtain⟨b,c,rfl,_⟩:=h
    rfl
  · obtain⟨b,c,rfl,hB,c0,c1,q⟩:=h
    refine⟨_,(ab (aJ (i:=2) bt.nd aZ)
      (ab (aJ (i:=3) bt.nd (ar O_law_take hr (aM (pv 0) aa)))
      (ab (aJ (i:=4) bt.nd (fk ["k"] ["letters", "shift"] [2,3] rfl (cy rfl Z.range (au (aG cn aa (ar O_law_take hr (aM (pv 0) aa))))) rfl (by decide +kernel) (by decide +kernel) (by decide +kernel) ⟨⟨rfl,.inl rfl,rfl⟩,⟨⟨rfl,.inl rfl,rfl⟩,True.intro⟩⟩ (fun _ _ _ _=>(aX (i:=0) (show ((["k"]:List Str)++(["letters", "shift"]:List Str)).Nodup by decide +kernel) (hf:=Or.inr rfl))) (fun _ _ _ _=>gK) (fun _ _ _ _=>(aG ni (aC iR (pv 1) (aG cR (aG cn (aG eh aa (pv 0)) (pv 2)) aa)) (aG sd (aC iR (pv 1) (aG jf (pv 0) aa)) (aG cR (pv 0) aa))))))
      (ab (aJ (i:=5) bt.nd (b4 cT))
      (ab (bV PassesOwn.never rfl (cy rfl Z.range (au (pv 1))) (aX (i:=6) bt.nd)
      (ab (aJ (i:=7) bt.nd (aT aP rfl Z.tuple bK (au (fk ["j"] ["bag", "names"] [0,4] rfl (cy rfl Z.range (au aa)) rfl (by decide +kernel) (by decide +kernel) (by decide +kernel) ⟨⟨rfl,.inl rfl,rfl⟩,⟨⟨rfl,.inl rfl,rfl⟩,True.intro⟩⟩ (fun _ _ _ _=>(aX (i:=0) (show ((["j"]:List Str)++(["bag", "names"]:List Str)).Nodup by decide +kernel) (hf:=Or.inr rfl))) (fun _ _ _ _=>gK) (fun _ _ _ _=>(ar O_law_deed hr (aM (pv 1) (pv 2))))))))
      (af (cC (dW PySem.F.plainAttrs_list PySem.F.slot_list_append PySem.F.type_list_append cN (pv 5) (au (dE (aM (pv 7) (ar O_law_end hr (fw (pv 0) (pv 4) (pv 1)))))))))))
      (af (aL (aT aP rfl Z.tuple bK (au (pv 5)))))))))),?_⟩
    refine⟨_,rfl,b,26,rfl,hB,⟨by decide,by decide +kernel⟩,fun sh H1 sh0 sh1 B1 X1=>?_⟩
    refine⟨_,rfl,b,36,rfl,B1,⟨by decide,by decide +kernel⟩,fun mm H2 mm0 mm1 B2 X2=>⟨_,_,rfl,rfl,?_⟩⟩
    refine⟨_,rfl,(by omega),(by omega),fun l nn=>?_⟩
    have hlb:l ≠ b:=B2.b6 nn
    have F2:Fix b H H2:=X1.trans X2
    refine fm (lo:=0) (fun i ys τ H'=>∃ (v:Option V) (xs:List Str),τ = [v,some (.str e7),some (.int sh)]/\ys=xs.map V.str/\xs.length=i/\(∀ x ∈ xs,cA x)/\H' l=some (.lst ys)/\bx H' b/\Fix b H H') ?_ ?_ ?_ ?_
    · exact⟨none,[],rfl,rfl,rfl,(fun _ h=>nomatch h),U,B2.new nn,F2.trans (Fix.new nn)⟩
    · rintro i ys τ H3 hi ⟨v,xs,rfl,rfl,hl',_,ha,_⟩
      refine⟨ha,?_⟩
      rw [List.length_map]
      exact bA (by omega)
    · rintro i ys τ H3 hi ⟨v,xs,rfl,rfl,h2,h3,h1,B3,X3⟩
      refine b9 ?_
      refine nG ?_
      refine fj ?_
      obtain⟨ca,hat,ca0,ca1⟩:=iV (r:=(7 * (0+(i:Int))+sh) % 26) (Int.emod_nonneg _ (by decide)) (Int.emod_lt_of_pos _ (by decide))
      obtain⟨cb,hbt,cb0,cb1⟩:=iV (r:=(0+(i:Int)) / 26) (by omega) (by omega)
      obtain⟨mk,ml,nk⟩:=qI (c0:=ca) (c:=cb) (n:=(0+(i:Int)) % 4) ⟨ca0,ca1⟩ ⟨cb0,cb1⟩ (by omega) (by omega)
      have nnl:∀ d o,H d=some o->d ≠ b->d ≠ l:=fun d o hd nd z=>by
        have:=F2 d o hd nd
        rw [z,nn] at this;cases this
      refine⟨_,rfl,_,rfl,_,_,rfl,rfl,.inl ⟨by decide,by decide⟩,_,rfl,_,_,rfl,rfl,_,_,rfl,rfl,(show (0:Int) < 26 by decide),e7,_,ca,rfl,rfl,gM,hat,?_⟩
      refine⟨_,rfl,_,rfl,_,_,rfl,rfl,⟨by decide,by decide⟩,e7,_,cb,rfl,rfl,gM,hbt,_,rfl,_,_,rfl,rfl,(show (0:Int) < 4 by decide),_,_,rfl,rfl,mk,_,_,rfl,rfl,?_,h1,_,xs ++ [(⟨#[ca]⟩:Str)++Txt.mul ⟨#[cb]⟩ ((0+(i:Int)) % 4)],rfl,?_,(by rw [List.length_append,h2];rfl),?_,U,B3.put hlb.symm,?_⟩
      · have:(⟨#[ca]⟩:Str).length=1:=rfl
        rw [this]
        exact Nat.le_of_lt (bA (by omega))
      · rw [List.map_append];rfl
      · intro x hxm
        rcases List.mem_append.mp hxm with hxm | hxm
        · exact h3 x hxm
        · rw [List.mem_singleton.mp hxm];exact nk
      · intro d o hd nd
        rw [ae (nnl d o hd nd)]
        exact X3 d o hd nd
    rintro ys τ H3 ⟨v,xs,rfl,rfl,h2,h3,h1,B3,X3⟩
    have N3:b8 H3 b l xs:=⟨h1,hlb,(by intro z;rw [z] at h2;simp at h2;omega),(by omega),h3⟩
    have x4:xs.length<=60:=by omega
    refine⟨(by show 0<=sizeLine;decide),fun pl pn=>?_⟩
    have hpb:pl ≠ b:=B3.b6 pn
    refine⟨_,rfl,_,rfl,(by omega),(by omega),fU (lo:=0) (fun i σ H'=>∃ (u2 u3:Option V) (ps:List Piece) (vs:List V),σ = [some (.ref b),some (.int c),some (.str e7),some (.int sh),some (.ref l),some (.ref pl),u2,u3] /\
      H' pl=some (.lst vs)/\aH H' vs (ps.map cz)/\ps.length=i/\(∀ p ∈ ps,(p.1.length<=4/\∀ d ∈ p.1,eZ xs d)/\j1 xs c p.2)/\b8 H' b l xs/\bx H' b/\Fix b H H'/\(∀ d o,H3 d=some o->d ≠ b->H' d=some o)) ?_ ?_ ?_⟩
    · exact⟨_,_,[],[],rfl,U,.nil,rfl,(fun _ h=>nomatch h),N3.fix (Fix.new pn),B3.new pn,X3.trans (Fix.new pn),Fix.new pn⟩
    · rintro i σ H' hi ⟨v2,v3,ps,vs,rfl,hp,hr,hl,av,N',B',X',Y'⟩
      refine b9 ?_
      have X4:Fix b H' H':=fun _ _ h _=>h
      have B4:=B'
      have N4:=N'
      have hp4:=hp
      have hr4:=hr
      refine⟨3,rfl,(by decide),(by decide),fun acc na=>?_⟩
      have hab:acc ≠ b:=B4.b6 na
      refine fm (lo:=0) (fun i ys τ H''=>∃ (v:Option V) (ds:List b7),τ = [v,some (.ref b),some (.ref l)]/\aH H'' ys (ds.map cD)/\ds.length=i/\(∀ d ∈ ds,eZ xs d)/\H'' acc=some (.lst ys)/\bx H'' b/\Fix b H' H'') ?_ ?_ ?_ ?_
      · exact⟨none,[],rfl,.nil,rfl,(fun _ h=>nomatch h),U,B4.new na,Fix.new na⟩
      · rintro i' ys τ H5 hi' ⟨v,ds,rfl,rds,hl',_,ha,_⟩
        refine⟨ha,?_⟩
        rw [rds.len,List.length_map]
        exact bA (by omega)
      · rintro i' ys τ H5 hi' ⟨v,ds,rfl,rds,hl',hdk,ha,B5,X5⟩
        refine b9 ?_
        refine nG ?_
        refine fj ?_
        refine⟨_,rfl,_,rfl,b,l,xs,rfl,B5,N4.fix X5,fun dv d H6 rd dk B6 X6=>?_⟩
        have ha6:=X6 acc _ ha hab
        refine⟨ha6,_,ds ++ [d],rfl,?_,(by rw [List.length_append,hl'];rfl),?_,U,?_,?_⟩
        · rw [List.map_append]
          refine aH.app ((rds.fix B5 X6 (aY ds)).put ha6 (aY ds)) ?_
          exact rd.bR (fun p zs e=>by rw [ae (bU e ha6 (by intro z;cases z))];exact e) (eO d)
        · intro d' hd
          rcases List.mem_append.mp hd with hd | hd
          · exact hdk d' hd
          · rw [List.mem_singleton.mp hd];exact dk
        · obtain⟨x,y,e,z⟩:=B6
          exact⟨x,y,by rw [ae hab.symm];exact e,z⟩
        · intro d' o hd nd
          rw [ae (aF hd na)]
          exact (X5.trans X6) d' o hd nd
      · rintro ys τ H5 ⟨v,ds,rfl,rds,hl',hdk,ha,B5,X5⟩
        refine⟨acc,ys,rfl,.inl ⟨ax.of ha,fun tp tn=>?_⟩⟩
        have S5:=ah.new (o:=.tup ys) tn
        have htp:(upd H5 tp (.tup ys)) tp=some (.tup ys):=U
        have rds5:=rds.same S5 (aY ds)
        have B5':=B5.same S5
        have X45:Fix b H' (upd H5 tp (.tup ys)):=X5.trans (Fix.of_same S5)
        generalize (upd H5 tp (.tup ys))=H6 at S5 htp rds5 B5' X45
        have hp6:=X45 pl _ hp4 hpb
        refine⟨_,rfl,.inl ⟨rfl,_,ax.of hp6⟩,_,rfl,_,rfl,_,rfl,_,rfl,b,l,xs,c,rfl,B5',N4.fix X45,c0,(by omega),fun ev e H7 re ek B7 X7=>⟨ln2,fun pc pcn=>?_⟩⟩
        have S7:=ah.new (o:=.tup [.ref tp,ev]) pcn
        have hp7:(upd H7 pc (.tup [.ref tp,ev])) pl=some (.lst vs):=S7 _ _ (X7 pl _ hp6 hpb)
        have htpb:tp ≠ b:=B5'.ky htp
        refine⟨pl,_,_,rfl,rfl,hp7,?_,?_⟩
        · rw [hr.len,List.length_map,hl]
          exact bA (by omega)
        have hpiece:aI (upd H7 pc (.tup [.ref tp,ev])) (.ref pc) (cz (ds,e)) :=
          .tup U (.cons (.tup (S7 _ _ (X7 _ _ htp htpb)) ((rds5.fix B5' X7 (aY ds)).same S7 (aY ds))) (.cons (re.same S7 (dX e)) .nil))
        have X47:Fix b H' (upd H7 pc (.tup [.ref tp,ev])):=(X45.trans X7).trans (Fix.of_same S7)
        have F7:Fix b H (upd H7 pc (.tup [.ref tp,ev])):=(X'.trans X4).trans X47
        have plH:∀ d o,H3 d=some o->d ≠ b->d ≠ pl:=fun d o hd nd z=>by rw [z,pn] at hd;cases hd
        have N7:=N4.fix X47
        refine⟨_,_,ps ++ [(ds,e)],vs ++ [.ref pc],rfl,U,?_,(by rw [List.length_append,hl];rfl),?_,?_,?_,?_,?_⟩
        · rw [List.map_append]
          refine aH.app ((hr4.fix B4 X47 (aS ps)).put hp7 (aS ps)) ?_
          exact hpiece.bR (fun p zs e=>by rw [ae (bU e hp7 (by intro z;cases z))];exact e) (eC (ds,e))
        · intro p hpm
          rcases List.mem_append.mp hpm with hpm | hpm
          · exact av p hpm
          · rw [List.mem_singleton.mp hpm]
            exact⟨⟨by show ds.length<=4;omega,hdk⟩,ek⟩
        · have hll:l ≠ pl:=fun z=>by
            have:=N3.at_
            rw [z,pn] at this
            cases this
          exact⟨by rw [ae hll];exact N7.at_,N7.ne,N7.j3,N7.cu,N7.ok⟩
        · obtain⟨x,y,e',z⟩:=B7.same S7
          exact⟨x,y,by rw [ae hpb.symm];exact e',z⟩
        · intro d o hd nd
          rw [ae (plH d o (X3 d o hd nd) nd)]
          exact F7 d o hd nd
        · intro d o hd nd
          rw [ae (plH d o hd nd)]
          exact X47 d o (X4 d o (Y' d o hd nd) nd) nd
    · rintro σ H' ⟨v2,v3,ps,vs,rfl,hp,hr,hl,av,N',B',X',Y'⟩
      have hl':ps.length=c:=by rw [hl];omega
      refine⟨_,rfl,pl,_,rfl,.inl ⟨ax.of hp,fun tp tn=>?_⟩⟩
      refine q (.ref tp) xs ps _ (.tup U (hr.same (ah.new tn) (aS ps))) hl' ⟨fun p hpm=>(av p hpm).1,fun p hpm=>?_⟩ ⟨N'.ok,x4⟩ (B'.new tn) (X'.trans (Fix.new tn))
      rw [hl']
      exact (av p hpm).2
theorem uc {f:Addr} {fd:FuncData} (F:b0 K "law" "law" gR f fd) (Z:Bl mg) (O_law_bag:Own P w K mg base "_law_bag" 1 ["script", "k"] (qR K)) (O_law_take:Own P w K mg base "_law_take" 1 ["bag", "many"] cU) (O_law_plan:Own P w K mg base "_law_plan" 4 ["bag", "count", "most"] oP) (O_law_count:Own P w K mg base "_law_count" 2 ["bag", "most"] mJ) (O_law_wide_plan:Own P w K mg base "_law_wide_plan" 4 ["bag", "count"] mX) (O_law_ways:Own P w K mg base "_law_ways" 1 ["end"] fu) (O_ways_on:Own P w K mg base "ways_on" 3 ["end"] i0) (O_names_of:Own P w K mg base "names_of" 3 ["plan"] jP) (O_law_all_names:Own P w K mg base "_law_all_names" 1 ["plan"] pD) (O_reached:Own P w K mg base "reached" 4 ["plan"] iB) (O_law_reached:Own P w K mg base "_law_reached" 3 ["plan"] gu) (O_heads:Own P w K mg base "heads" 5 ["plan"] lB) (O_law_heads:Own P w K mg base "_law_heads" 4 ["plan"] jS):bw P w K mg base bW 9 f fd ["script"] (j0 K):=by
 refine F.ok (k:=8) dm (fun vs H Q E h=>?_) (fun cdv A outer s H vs Q E hr h=>?_)
 ·obtain⟨a,ns,rfl,_⟩:=h
  rfl
 ·obtain⟨a,ns,rfl,hS,hlen,q⟩:=h
  refine⟨_,(ab (aJ (i:=1) dm.nd (ar O_law_bag hr (aM (pv 0) aa)))
   (ab (aJ (i:=2) dm.nd (gJ cS (ar O_law_take hr (aM (pv 1) aa)) aa (ba _)))
   (ab (aJ (i:=3) dm.nd (aC bD (b4 (aM (ar O_law_count hr (aM (pv 1) aa)) aa)) (aT oz rfl Z.int tI (au (gJ cS (ar O_law_take hr (aM (pv 1) aa)) aa (ba _))))))
   (ab (aJ (i:=1) dm.nd (ar O_law_bag hr (aM (pv 0) aa)))
   (ab (tM (bL (sI (pv 2))
   (af (aJ (i:=4) dm.nd (ar O_law_wide_plan hr (aM (pv 1) (pv 3)))))
   (af (aJ (i:=4) dm.nd (ar O_law_plan hr (fw (pv 1) (pv 3) aa))))))
   (ab (bV PassesOwn.never rfl (dD (pv 4)) (iL rfl (cx (aX (i:=5) dm.nd) (cx (aX (i:=6) dm.nd) gI)))
   (af (bL (aR (oO hr.units) (ar O_ways_on hr (au (pv 6))) (aT aP rfl Z.tuple bK (au (ar O_law_ways hr (au (pv 6))))) (ba _))
   (af (aL gG))
   bb)))
   (ab (bL (aR (oO hr.units) (ar O_names_of hr (au (pv 4))) (aT aP rfl Z.tuple bK (au (ar O_law_all_names hr (au (pv 4))))) (ba _))
   (af (aL gG))
   bb)
   (af (aL (sM (gJ (oM hr.units) (ar O_reached hr (au (pv 4))) (aT aP rfl Z.tuple bK (au (ar O_law_reached hr (au (pv 4))))) (ba _)) (sL (gJ (oM hr.units) (ar O_heads hr (au (pv 4))) (aT aP rfl Z.tuple bK (au (ar O_law_heads hr (au (pv 4))))) (ba _))))))))))))),?_⟩
  refine⟨_,rfl,a,ns,0,rfl,hS,(by decide),fun b H1 nb B1 s1=>?_⟩
  refine⟨_,rfl,b,3,rfl,B1,⟨by decide,by decide +kernel⟩,fun wd H2 wd0 wd1 B2 X2=>⟨rfl,?_⟩⟩
  refine⟨_,rfl,b,60,rfl,B2,(by omega),(by omega),fun c H3 c0 c1 B3 X3=>?_⟩
  refine⟨ln2,fun l0 n0=>?_⟩
  have h0:(upd H3 l0 (.lst [.int c,.int 400])) l0=some (.lst [.int c,.int 400]):=U
  refine⟨_,rfl,b,8,rfl,B3.new n0,⟨by decide,by decide +kernel⟩,fun z H4 z0 z1 B4 X4=>⟨rfl,?_⟩⟩
  have h0:=X4 _ _ h0 (B3.b6 n0)
  obtain⟨g,hg,hg2⟩:∃ g:Nat,dq [V.int c,V.int 400] (if decide (V.int z=V.int 0)=true then 1 else 0)=some (V.int g)/\(0 < g/\g<=400):=by
   cases decide (V.int z=V.int 0)
   ·exact⟨c,gZ,by omega⟩
   ·exact⟨400,fI,by omega⟩
  refine .inr ⟨_,rfl,l0,_,_,_,rfl,rfl,ax.of h0,hg,?_⟩
  have s4:ah H H4:=ah.kx s1 nb ((X2.trans X3).trans ((Fix.new n0).trans X4))
  refine⟨_,rfl,a,ns,1,rfl,s4.seq hS,(by decide),fun b2 H5 nb2 B5 s5=>?_⟩
  clear B4 B3 B2 B1 X2 X3 X4 h0 hg n0 nb s1
  refine⟨fun σ' H'=>∃ (plv:V) (ps:List Piece) (xs:List Str) (u1 u2 u3:Option V),σ' = [some (.ref a),u1,u2,u3,some plv,none,none]/\aI H' plv (cW ps)/\cE xs 4 ps/\(∀ x ∈ xs,cA x)/\xs.length < 64/\0 < ps.length/\ps.length<=400/\ah H H',?_,?_⟩
  ·refine⟨_,rfl,_,rfl,?_⟩
   refine dM (fun hc=>?_) (fun hc=>?_)
   ·refine⟨_,rfl,_,rfl,b2,g,rfl,B5,hg2.1,(by omega),fun plv xs ps H7 r7 hc7 pok xok B7 X7=>?_⟩
    exact⟨plv,ps,xs,_,_,_,rfl,r7,pok,xok.1,(by have:=xok.2;omega),(by omega),(by omega),s4.trans (ah.kx s5 nb2 X7)⟩
   ·refine⟨_,rfl,_,rfl,b2,g,2,rfl,B5,hg2.1,(by omega),(by omega),fun plv xs ps H7 r7 hc7 pok xok B7 X7=>?_⟩
    exact⟨plv,ps,xs,_,_,_,rfl,r7,⟨fun p hp=>⟨Nat.le_trans (pok.j2 p hp).1 (by decide),(pok.j2 p hp).2⟩,pok.ends⟩,xok.1,(by have:=xok.2;omega),(by omega),(by omega),s4.trans (ah.kx s5 nb2 X7)⟩
  clear B5 s5 nb2 s4
  rintro σ' H6 ⟨plv,ps,xs,u1,u2,u3,rfl,r6,pok,nok,hx64,hp0,hp4,s6⟩
  have hin:=pok.tR
  obtain⟨pp,vs,rfl,e6,rvs⟩:=aI.bJ r6
  have hvl:vs.length=ps.length:=by have:=rvs.len;rw [List.length_map] at this;exact this
  refine⟨_,rfl,pp,rfl,⟨_,ay.of e6⟩,cM (K:=K) (a:=pp) (xs:=vs) (fun i σ H'=>∃ (u4 u5:Option V),σ = [some (.ref a),u1,u2,u3,some (.ref pp),u4,u5]/\ah H6 H') ?_ ?_ ?_ ?_⟩
  ·exact⟨_,_,rfl,ah.refl H6⟩
  ·rintro i σ H7 hi ⟨u4,u5,rfl,g1⟩
   exact ay.of (g1 _ _ e6)
  ·rintro i y σ H7 hy ⟨u4,u5,rfl,g1⟩
   have hi:i < ps.length:=by
    have:=(List.getElem?_eq_some_iff.mp hy).1
    omega
   have hps:ps[i]? = some ps[i]:=List.getElem?_eq_getElem hi
   generalize ps[i] = pce at hps
   obtain⟨ds,e⟩:=pce
   obtain⟨p',xs',pc,da,ea,wsv,ep,e1',el',hx',e2,e3,r3,e4⟩:=cK r6 hps
   cases ep
   rw [e6] at e1'
   cases e1'
   rw [hy] at hx'
   cases hx'
   refine⟨pc,_,rfl,ay.of (g1 _ _ e2),rfl,_,_,rfl,_,_,rfl,rfl,?_⟩
   refine⟨_,rfl,ea,e,rfl,g1 _ _ e4,fun t1 H8 ht1 s8=>?_⟩
   refine⟨_,rfl,ea,e,rfl,s8 _ _ (g1 _ _ e4),fun l1 H9 nl1 hl1 s9=>?_⟩
   refine⟨l1,_,rfl,.inl ⟨ax.of hl1,fun t2 nt2=>?_⟩⟩
   have s10:=ah.new (o:=.tup (vN (aB e))) nt2
   refine lC (d:=pF (aB e)) (.tup (s10 _ _ (s9 _ _ ht1)) (fA _)) (.tup U (fA _)) (jw _) (jx _) ⟨_,rfl,cw rfl ?_⟩
   exact⟨_,_,rfl,((g1.trans s8).trans s9).trans s10⟩
  rintro σ H7 ⟨u4,u5,rfl,g1⟩
  have nol:=eQ ps
  have r7:=r6.same g1 nol
  have hal:(aw ps).length<=4000:=by
   have h1:=rW pok
   have h2:ps.length * (2 * 4+1)<=400 * 9:=Nat.mul_le_mul (by omega) (Nat.le_refl 9)
   omega
  refine⟨_,rfl,_,ps,xs,4,rfl,r7,pok,hx64,hal,fun t1 ss H8 ht1 hp1 hs1 hl1 s8=>?_⟩
  refine⟨_,rfl,_,ps,xs,4,rfl,r7.same s8 nol,pok,hx64,fun l2 ss2 H9 hl2 hp2 hs2 hl2' s9=>?_⟩
  have ess:ss2=ss:=rV hp2 hp1 hs2 hs1
  subst ess
  refine⟨l2,_,rfl,.inl ⟨ax.of hl2,fun t2 nt2=>?_⟩⟩
  have s10:=ah.new (o:=.tup (ss2.map V.str)) nt2
  have hnm:∀ x ∈ ss2,cA x:=fun x hx=>nok x (gr pok x (LS.gn.mp (hp2.mem_iff.mp hx)))
  refine lC (d:=.tuple (ss2.map PyData.str)) (.tup (s10 _ _ (s9 _ _ ht1)) (iz ss2)) (.tup U (iz ss2)) (jr _ fun d hd=>by obtain⟨x,hx,rfl⟩:=List.mem_map.mp hd;exact qF (hnm x hx)) (mY (m:=1) (fun d hd=>by obtain⟨x,_,rfl⟩:=List.mem_map.mp hd;show 0<=1;decide) (by decide)) ⟨_,rfl,cw rfl ?_⟩
  have s0:=(g1.trans s8).trans (s9.trans s10)
  have r10:=r6.same s0 nol
  generalize (upd H9 t2 (.tup (ss2.map V.str)))=H10 at s0 r10 ⊢
  clear s10 s9 s8 ht1 hl2 nt2
  refine⟨_,rfl,_,ps,rfl,r10,hin,hp0,hp4,fun t3 ks H11 ht3 hk3 hb3 hr3 s11=>?_⟩
  refine⟨_,rfl,_,ps,rfl,r10.same s11 nol,hin,hp0,hp4,fun l4 ks4 H12 hl4 hk4 hb4 hr4 s12=>?_⟩
  obtain rfl:ks4=ks:=iA hr4 hr3 fun k=>(hk4 k).trans (hk3 k).symm
  refine⟨l4,_,rfl,.inl ⟨ax.of hl4,fun t5 nt5=>?_⟩⟩
  have s13:=ah.new (o:=.tup (vN ks4)) nt5
  refine lF (d:=pF ks4) (.tup (s13 _ _ (s12 _ _ ht3)) (fA _)) (.tup U (fA _)) (jw _) (jx _) ⟨_,rfl,eG rfl ?_⟩
  have r13:=r10.same ((s11.trans s12).trans s13) nol
  generalize (upd H12 t5 (.tup (vN ks4)))=H13 at r13 ⊢
  refine⟨_,rfl,_,ps,rfl,r13,hin,hp0,hp4,fun t6 hs6 H14 ht6 hk6 hr6 s14=>?_⟩
  refine⟨_,rfl,_,ps,rfl,r13.same s14 nol,hin,hp0,hp4,fun l7 hs7 H15 hl7 hk7 hr7 s15=>?_⟩
  obtain rfl:hs7=hs6:=iA hr7 hr6 fun k=>(hk7 k).trans (hk6 k).symm
  refine⟨l7,_,rfl,.inl ⟨ax.of hl7,fun t8 nt8=>?_⟩⟩
  have s16:=ah.new (o:=.tup (vN hs7)) nt8
  refine lF (d:=pF hs7) (.tup (s16 _ _ (s15 _ _ ht6)) (fA _)) (.tup U (fA _)) (jw _) (jx _) ?_
  exact q _
end
theorem all_mk {l:PySem.W.OpenLaw} {w:World} {K:PySem.W.Frag} {h:Heap} {mg:Str->Option Value} {fa:Addr} (X:K.In h) (G:h.Ns mainGlobals mg) (hfa:mg "law" = some (.ref fa))
  {f0 f1 f2 f3 f4 f5 f6 f7 f8 f9 f10 f11 f12 f13 f14 f15 f16 f17 f18:Addr} {g0 g1 g2 g3 g4 g5 g6 g7 g8 g9 g10 g11 g12 g13 g14 g15 g16 g17 g18:FuncData}
  {aE:Addr} {epE:Nat} {s0:Addr} {hsE0:Int} {tkE0:Tok} {dcE0:Option Addr} {nnE0:Nat} {slE0:Array (Option Value)}  {s1:Addr} {hsE1:Int} {tkE1:Tok} {dcE1:Option Addr} {nnE1:Nat} {slE1:Array (Option Value)} {ttE1_0:Tok} {s2:Addr} {hsE2:Int} {tkE2:Tok} {dcE2:Option Addr} {nnE2:Nat} {slE2:Array (Option Value)} {ttE2_0:Tok} {ttE2_1:Tok} {ttE2_2:Tok} {ttE2_3:Tok} {s3:Addr} {hsE3:Int} {tkE3:Tok} {dcE3:Option Addr} {nnE3:Nat} {slE3:Array (Option Value)} {ttE3_0:Tok} {ttE3_1:Tok} {ttE3_2:Tok} {ttE3_3:Tok}
  {aD:Addr} {epD:Nat} {d0:Addr} {hsD0:Int} {tkD0:Tok} {dcD0:Option Addr} {nnD0:Nat} {slD0:Array (Option Value)} {ttD0_0:Tok} {ttD0_1:Tok} {d1:Addr} {hsD1:Int} {tkD1:Tok} {dcD1:Option Addr} {nnD1:Nat} {slD1:Array (Option Value)} {ttD1_0:Tok} {ttD1_1:Tok} {d2:Addr} {hsD2:Int} {tkD2:Tok} {dcD2:Option Addr} {nnD2:Nat} {slD2:Array (Option Value)} {ttD2_0:Tok} {ttD2_1:Tok} {d3:Addr} {hsD3:Int} {tkD3:Tok} {dcD3:Option Addr} {nnD3:Nat} {slD3:Array (Option Value)} {ttD3_0:Tok} {d4:Addr} {hsD4:Int} {tkD4:Tok} {dcD4:Option Addr} {nnD4:Nat} {slD4:Array (Option Value)} {ttD4_0:Tok}
  (z_len:PySem.W.nsIn K mainGlobals "len" = some none)
  (z_zip:PySem.W.nsIn K mainGlobals "zip" = some none)
  (z_tuple:PySem.W.nsIn K mainGlobals "tuple" = some none)
  (z_sorted:PySem.W.nsIn K mainGlobals "sorted" = some none)
  (z_set:PySem.W.nsIn K mainGlobals "set" = some none)
  (z_min:PySem.W.nsIn K mainGlobals "min" = some none)
  (z_range:PySem.W.nsIn K mainGlobals "range" = some none)
  (z_list:PySem.W.nsIn K mainGlobals "list" = some none)
  (z_int:PySem.W.nsIn K mainGlobals "int" = some none)
  (gE:PySem.W.nsIn K mainGlobals "END_PARTS" = some (some (.ref aE))) (lE:K.lookup aE=some ⟨.type "dict",none,.dict #[⟨hsE0,.str "stop" tkE0,.ref s0⟩,⟨hsE1,.str "go" tkE1,.ref s1⟩,⟨hsE2,.str "less" tkE2,.ref s2⟩,⟨hsE3,.str "is" tkE3,.ref s3⟩] epE,#[]⟩) (qE0:K.lookup s0=some ⟨.type "tuple",dcE0,.seq #[] nnE0,slE0⟩) (qE1:K.lookup s1=some ⟨.type "tuple",dcE1,.seq #[.str "piece" ttE1_0] nnE1,slE1⟩) (qE2:K.lookup s2=some ⟨.type "tuple",dcE2,.seq #[.str "name" ttE2_0,.str "number" ttE2_1,.str "piece" ttE2_2,.str "piece" ttE2_3] nnE2,slE2⟩) (qE3:K.lookup s3=some ⟨.type "tuple",dcE3,.seq #[.str "name" ttE3_0,.str "number" ttE3_1,.str "piece" ttE3_2,.str "piece" ttE3_3] nnE3,slE3⟩)
  (gD:PySem.W.nsIn K mainGlobals "DEED_PARTS" = some (some (.ref aD))) (lD:K.lookup aD=some ⟨.type "dict",none,.dict #[⟨hsD0,.str "put" tkD0,.ref d0⟩,⟨hsD1,.str "copy" tkD1,.ref d1⟩,⟨hsD2,.str "add" tkD2,.ref d2⟩,⟨hsD3,.str "read" tkD3,.ref d3⟩,⟨hsD4,.str "tell" tkD4,.ref d4⟩] epD,#[]⟩) (qD0:K.lookup d0=some ⟨.type "tuple",dcD0,.seq #[.str "name" ttD0_0,.str "number" ttD0_1] nnD0,slD0⟩) (qD1:K.lookup d1=some ⟨.type "tuple",dcD1,.seq #[.str "name" ttD1_0,.str "name" ttD1_1] nnD1,slD1⟩) (qD2:K.lookup d2=some ⟨.type "tuple",dcD2,.seq #[.str "name" ttD2_0,.str "number" ttD2_1] nnD2,slD2⟩) (qD3:K.lookup d3=some ⟨.type "tuple",dcD3,.seq #[.str "name" ttD3_0] nnD3,slD3⟩) (qD4:K.lookup d4=some ⟨.type "tuple",dcD4,.seq #[.str "name" ttD4_0] nnD4,slD4⟩)
  (D0:bE K "parts_of_kind" de f0 g0)
  (D1:bE K "ways_on" gx f1 g1)
  (D2:bE K "names_of" fB f2 g2)
  (D3:bE K "reached" gy f3 g3)
  (D4:bE K "heads" jy f4 g4)
  (D5:bE K "_law_bag" gA f5 g5)
  (D6:bE K "_law_take" fE f6 g6)
  (D7:bE K "_law_names" eS f7 g7)
  (D8:bE K "_law_number" eD f8 g8)
  (D9:bE K "_law_deed" fF f9 g9)
  (D10:bE K "_law_end" gB f10 g10)
  (D11:bE K "_law_plan" fG f11 g11)
  (D12:bE K "_law_count" eU f12 g12)
  (D13:bE K "_law_ways" fH f13 g13)
  (D14:bE K "_law_all_names" dg f14 g14)
  (D15:bE K "_law_reached" dP f15 g15)
  (D16:bE K "_law_heads" eV f16 g16)
  (D17:bE K "_law_wide_plan" di f17 g17)
  (D18:bE K "law" gR f18 g18) :
  ∃ fd:FuncData,(∀ (s:Shared) (v:Value),BindsTo s fd ⟨[v],[]⟩ [("script",v)])/\∀ base:Heap,K.In base->base.Ns mainGlobals mg->bw l.prog w K mg base bW 9 fa fd ["script"] (j0 K):=by
 have e:=hfa.symm.trans (PySem.W.mg_of X G D18.a)
 cases e
 have Z:Bl mg:=⟨PySem.W.mg_none_of X G z_len,PySem.W.mg_none_of X G z_zip,PySem.W.mg_none_of X G z_tuple,PySem.W.mg_none_of X G z_sorted,PySem.W.mg_none_of X G z_set,PySem.W.mg_none_of X G z_min,PySem.W.mg_none_of X G z_range,PySem.W.mg_none_of X G z_list,PySem.W.mg_none_of X G z_int⟩
 have GE:kP K mg aE s0 s1 s2 s3:=⟨⟨PySem.W.mg_of X G gE,_,_,lE,(.cons rfl rfl (.cons rfl rfl (.cons rfl rfl (.cons rfl rfl .nil))))⟩,⟨_,_,_,qE0,rfl,rfl,(by show 0<=sizeLine;decide),.nil⟩,⟨_,_,_,qE1,rfl,rfl,(by show 1<=sizeLine;decide),(.cons ⟨_,rfl⟩ .nil)⟩,⟨_,_,_,qE2,rfl,rfl,(by show 4<=sizeLine;decide),(.cons ⟨_,rfl⟩ (.cons ⟨_,rfl⟩ (.cons ⟨_,rfl⟩ (.cons ⟨_,rfl⟩ .nil))))⟩,⟨_,_,_,qE3,rfl,rfl,(by show 4<=sizeLine;decide),(.cons ⟨_,rfl⟩ (.cons ⟨_,rfl⟩ (.cons ⟨_,rfl⟩ (.cons ⟨_,rfl⟩ .nil))))⟩⟩
 have GD:j4 K mg aD d0 d1 d2 d3 d4:=⟨⟨PySem.W.mg_of X G gD,_,_,lD,(.cons rfl rfl (.cons rfl rfl (.cons rfl rfl (.cons rfl rfl (.cons rfl rfl .nil)))))⟩,⟨_,_,_,qD0,rfl,rfl,(by show 2<=sizeLine;decide),(.cons ⟨_,rfl⟩ (.cons ⟨_,rfl⟩ .nil))⟩,⟨_,_,_,qD1,rfl,rfl,(by show 2<=sizeLine;decide),(.cons ⟨_,rfl⟩ (.cons ⟨_,rfl⟩ .nil))⟩,⟨_,_,_,qD2,rfl,rfl,(by show 2<=sizeLine;decide),(.cons ⟨_,rfl⟩ (.cons ⟨_,rfl⟩ .nil))⟩,⟨_,_,_,qD3,rfl,rfl,(by show 1<=sizeLine;decide),(.cons ⟨_,rfl⟩ .nil)⟩,⟨_,_,_,qD4,rfl,rfl,(by show 1<=sizeLine;decide),(.cons ⟨_,rfl⟩ .nil)⟩⟩
 obtain⟨oc,od,kV,dc,pm,an,cd,ct,sl,rfl,lk,hcd⟩:=D18.F.ex
 refine⟨PySem.W.fnOf "law" "law" (b5 gR) (bM gR) (ao gR) .none kV dc pm an cd ct,fun s v=>.of_eq rfl,fun base _ _=>?_⟩
 have O_parts_of_kind:=bC l.prog w base X G D0 (iD D0.F Z) (ub fun _ _ _ _ _ _ _ _ _=>rfl)
 have O_ways_on:=bC l.prog w base X G D1 (nW D1.F Z GE O_parts_of_kind) (ie fun _ _ _ _ _ _ _=>rfl)
 have O_names_of:=bC l.prog w base X G D2 (lU D2.F Z GD GE O_parts_of_kind) (ie fun _ _ _ _ _ _ _=>rfl)
 have O_reached:=bC l.prog w base X G D3 (nX D3.F Z O_ways_on) (ie fun _ _ _ _ _ _ _=>rfl)
 have O_heads:=bC l.prog w base X G D4 (qJ D4.F Z O_reached O_ways_on) (ie fun _ _ _ _ _ _ _=>rfl)
 have O_law_bag:=bC l.prog w base X G D5 (nY D5.F Z) (pE fun _ _ _ _ _ _ _ _=>rfl)
 have O_law_take:=bC l.prog w base X G D6 (lV D6.F Z) (pE fun _ _ _ _ _ _ _ _=>rfl)
 have O_law_names:=bC l.prog w base X G D7 (lH D7.F Z O_law_take) (ie fun _ _ _ _ _ _ _=>rfl)
 have O_law_number:=bC l.prog w base X G D8 (jX D8.F Z O_law_take) (ie fun _ _ _ _ _ _ _=>rfl)
 have O_law_deed:=bC l.prog w base X G D9 (lW D9.F Z O_law_take O_law_number) (pE fun _ _ _ _ _ _ _ _=>rfl)
 have O_law_end:=bC l.prog w base X G D10 (nZ D10.F Z O_law_take O_law_number) (ub fun _ _ _ _ _ _ _ _ _=>rfl)
 have O_law_plan:=bC l.prog w base X G D11 (lZ D11.F Z O_law_take O_law_names O_law_deed O_law_end) (ub fun _ _ _ _ _ _ _ _ _=>rfl)
 have O_law_count:=bC l.prog w base X G D12 (lI D12.F Z O_law_take) (pE fun _ _ _ _ _ _ _ _=>rfl)
 have O_law_ways:=bC l.prog w base X G D13 (ma D13.F Z) (ie fun _ _ _ _ _ _ _=>rfl)
 have O_law_all_names:=bC l.prog w base X G D14 (iE D14.F Z) (ie fun _ _ _ _ _ _ _=>rfl)
 have O_law_reached:=bC l.prog w base X G D15 (jA D15.F Z O_law_ways) (ie fun _ _ _ _ _ _ _=>rfl)
 have O_law_heads:=bC l.prog w base X G D16 (lJ D16.F Z O_law_reached O_law_ways) (ie fun _ _ _ _ _ _ _=>rfl)
 have O_law_wide_plan:=bC l.prog w base X G D17 (iF D17.F Z O_law_take O_law_deed O_law_end) (pE fun _ _ _ _ _ _ _ _=>rfl)
 exact uc D18.F Z O_law_bag O_law_take O_law_plan O_law_count O_law_wide_plan O_law_ways O_ways_on O_names_of O_law_all_names O_reached O_law_reached O_heads O_law_heads
theorem walk {l:PySem.W.OpenLaw} {q:Program} {loose:List Str} {XP:(Str->Option Value)->Heap->Prop} {YP:World->Heap->Prop} {d:DefRec} {K:Params->PySem.W.Frag} (hn:l.most=some 63) (hdf:d.params.defaults = [])
  (hY:∀ (w:World) (h:Heap),YP w h->(K w.params).In h)
  (F:∀ (w:World) (mg:Str->Option Value) (fa:Addr) (h:Heap),(K w.params).In h->h.Ns mainGlobals mg->mg d.name=some (.ref fa) ->
   ∃ fd:FuncData,(∀ (s:Shared) (u:Value),BindsTo s fd ⟨[u],[]⟩ [("script",u)])/\∀ base:Heap,(K w.params).In base->base.Ns mainGlobals mg->bw l.prog w (K w.params) mg base bW 9 fa fd ["script"] (j0 (K w.params))) :
  PySem.W.WalkO q loose XP YP l.row.toRowW d [] (fun f vs=>PySem.call f vs) :=
 L2.rE (n:=63) (k:=9) (x := "script") (CX:=fun _=>bW) (sp:=fun w=>j0 (K w.params)) hn (by decide) hdf ⟨rfl,by decide,by decide⟩ hY F (fun _ _ a ns hl _ hS=>⟨a,ns,rfl,hS,hl,fun _=>rfl⟩) fun _ _ _ _ _ z=>z
end My
theorem PySem.W.Fast.tw12070268417834508821:True:=trivial
theorem PySem.W.Fast.tw17760997438093148608:True:=trivial
theorem PySem.W.Fast.tw16535945154141371248:True:=trivial
theorem PySem.W.Fast.tw13324208757456485857:True:=trivial
theorem PySem.W.Fast.tw12239981588318165473:True:=trivial
theorem PySem.W.Fast.tw136467355486348641:True:=trivial
theorem PySem.W.Fast.tw3393045270176122836:True:=trivial
theorem PySem.W.Fast.tw5503636239671395242:True:=trivial
theorem PySem.W.Fast.tw18333042055173394865:True:=trivial
theorem PySem.W.Fast.tw1886156172404143300:True:=trivial
theorem PySem.W.Fast.tw14449958846001969787:True:=trivial
theorem PySem.W.Fast.tw13752012536758215895:True:=trivial
theorem PySem.W.Fast.tw3371948836582126235:True:=trivial
theorem PySem.W.Fast.tw8141632593094589018:True:=trivial
theorem PySem.W.Fast.tw4349963315039698528:True:=trivial
theorem PySem.W.Fast.tw330408945063473029:True:=trivial
theorem PySem.W.Fast.tw1813568227993316346:True:=trivial
theorem PySem.W.Fast.tw3099718852540900951:True:=trivial
theorem PySem.W.Fast.tw1191123075108786994:True:=trivial
theorem PySem.W.Fast.tw13238037530857784359:True:=trivial
theorem PySem.W.Fast.tw17553294766857311072:True:=trivial
theorem PySem.W.Fast.tw7790655645688499795:True:=trivial
theorem PySem.W.Fast.tw2013952124779329920:True:=trivial
theorem PySem.W.Fast.tw9663994266397145496:True:=trivial
theorem PySem.W.Fast.tw5753558915514566713:True:=trivial
theorem PySem.W.Fast.tw11705170576357515812:True:=trivial
theorem PySem.W.Fast.tw9190605195449525160:True:=trivial
theorem PySem.W.Fast.tw8725653011921779582:True:=trivial
theorem PySem.W.Fast.tw4115356651871836284:True:=trivial
theorem PySem.W.Fast.tw13857686658870621171:True:=trivial
theorem PySem.W.Fast.tw15113711144971110690:True:=trivial
theorem PySem.W.Fast.tw2103771712581164563:True:=trivial
theorem PySem.W.Fast.tw13453213173110344214:True:=trivial
theorem PySem.W.Fast.tw9645104718244561360:True:=trivial
theorem PySem.W.Fast.tw5405364956989248379:True:=trivial
theorem PySem.W.Fast.tw8984113324207362830:True:=trivial
theorem PySem.W.Fast.tw8501099945188839524:True:=trivial
theorem PySem.W.Fast.tw10584217233800350822:True:=trivial
theorem PySem.W.Fast.tw8676536049538134085:True:=trivial
theorem PySem.W.Fast.tw11545096327258481248:True:=trivial
theorem PySem.W.Fast.tw3812825802873621880:True:=trivial
theorem PySem.W.Fast.tw6229000544535288529:True:=trivial
theorem PySem.W.Fast.tw8743091893892627105:True:=trivial
theorem PySem.W.Fast.tw5407227084930573409:True:=trivial
theorem PySem.W.Fast.tw12490494789532160060:True:=trivial
theorem PySem.W.Fast.tw16762475831882882453:True:=trivial
theorem PySem.W.Fast.tw6951065370960176344:True:=trivial
theorem PySem.W.Fast.tw13169794556528059294:True:=trivial
open PySem PySem.W PyProof.Rows
set_option maxRecDepth 100000 in
set_option maxHeartbeats 0 in
theorem PySem.Challenge.cw_ledpast_k05_names_ways_heads_holds : PySem.Challenge.rw_ledpast_k05_names_ways_heads.Holds := by
 w_on; o_law; k_head; (case hw => w_witness2)
 k_fill
 refine My.walk (l := PySem.Challenge.rw_ledpast_k05_names_ways_heads) rfl rfl (fun w h Y => PySem.W.kIn_of Y) ?F
 case F =>
  intro w mg fa h KX G hmg
  refine' My.all_mk KX G hmg ?z_len ?z_zip ?z_tuple ?z_sorted ?z_set ?z_min ?z_range ?z_list ?z_int ?gE ?lE ?qE0 ?qE1 ?qE2 ?qE3 ?gD ?lD ?qD0 ?qD1 ?qD2 ?qD3 ?qD4 (L2.def_mk ?a0 ?l0 ?c0 ?k0) (L2.def_mk ?a1 ?l1 ?c1 ?k1) (L2.def_mk ?a2 ?l2 ?c2 ?k2) (L2.def_mk ?a3 ?l3 ?c3 ?k3) (L2.def_mk ?a4 ?l4 ?c4 ?k4) (L2.def_mk ?a5 ?l5 ?c5 ?k5) (L2.def_mk ?a6 ?l6 ?c6 ?k6) (L2.def_mk ?a7 ?l7 ?c7 ?k7) (L2.def_mk ?a8 ?l8 ?c8 ?k8) (L2.def_mk ?a9 ?l9 ?c9 ?k9) (L2.def_mk ?a10 ?l10 ?c10 ?k10) (L2.def_mk ?a11 ?l11 ?c11 ?k11) (L2.def_mk ?a12 ?l12 ?c12 ?k12) (L2.def_mk ?a13 ?l13 ?c13 ?k13) (L2.def_mk ?a14 ?l14 ?c14 ?k14) (L2.def_mk ?a15 ?l15 ?c15 ?k15) (L2.def_mk ?a16 ?l16 ?c16 ?k16) (L2.def_mk ?a17 ?l17 ?c17 ?k17) (L2.def_mk ?a18 ?l18 ?c18 ?k18)
  case gE | lE | qE0 | qE1 | qE2 | qE3 | gD | lD | qD0 | qD1 | qD2 | qD3 | qD4 | a0 | l0 | c0 | k0 | a1 | l1 | c1 | k1 | a2 | l2 | c2 | k2 | a3 | l3 | c3 | k3 | a4 | l4 | c4 | k4 | a5 | l5 | c5 | k5 | a6 | l6 | c6 | k6 | a7 | l7 | c7 | k7 | a8 | l8 | c8 | k8 | a9 | l9 | c9 | k9 | a10 | l10 | c10 | k10 | a11 | l11 | c11 | k11 | a12 | l12 | c12 | k12 | a13 | l13 | c13 | k13 | a14 | l14 | c14 | k14 | a15 | l15 | c15 | k15 | a16 | l16 | c16 | k16 | a17 | l17 | c17 | k17 | a18 | l18 | c18 | k18 | z_len | z_zip | z_tuple | z_sorted | z_set | z_min | z_range | z_list | z_int => k_is
