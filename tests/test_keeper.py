"""Points 32 and 33, and 3 of them: keepers."""

import copy
import unittest

from ledpast.errors import NoPiece, PlanError, TooMany
from ledpast.keeper import Keeper
from ledpast.led import led_past
from ledpast.papers import paper_holds
from ledpast.plans import is_plan
from ledpast.runs import run, seen
from made import Made, made_plans
from worked import PlainKeeper

LONG = 10 ** 40 - 1
STOP = ("stop",)
TELL = ("tell", "a")
# Piece 3 has two copies, one for each way to it; piece 6 is not reached.
PLAN = (
    ((("read", "b"),), ("less", "b", 0, 1, 2)),
    ((("put", "a", 1),), ("go", 3)),
    ((("put", "a", 2),), ("go", 3)),
    ((TELL,), ("is", "a", 1, 4, 5)),
    ((), STOP),
    ((("tell", "b"),), STOP),
    ((), ("go", 0)),
)
BELOW, ABOVE = ("b", (None, -1)), ("b", (0, None))
ONE, TWO = (("a", (1, 1)), BELOW), (("a", (2, 2)), ABOVE)
START = (("a", (0, 0)), ("b", (0, 0)))
COPIES = ((0, START), (1, (("a", (0, 0)), BELOW)), (2, (("a", (0, 0)), ABOVE)), (3, ONE), (3, TWO), (4, ONE), (5, TWO))


class KeeperCase(unittest.TestCase):
    def lets_by(self, keeper):
        self.assertTrue(is_plan(keeper.plan()))
        self.assertTrue(is_plan(keeper.other()))
        self.assertIs(paper_holds(keeper.plan(), keeper.other(), keeper.paper()), True)

    def ends(self, keeper):
        return tuple([end for deeds, end in keeper.other()])


class Begin(KeeperCase):
    def test_the_plan_led_past(self):
        for plan in made_plans(60, 7) + [PLAN]:
            for most in (1, 3, 300):
                keeper = Keeper(plan, most)
                self.assertEqual(keeper.plan(), plan)
                self.assertEqual((keeper.other(), keeper.paper()), led_past(plan, most))
                self.assertEqual(keeper.made(), 1)
                self.lets_by(keeper)

    def test_sixty_pieces_and_sixty_one(self):
        keeper = Keeper((((), STOP),) * 60, 300)
        self.assertEqual(keeper.other(), (((), STOP),))
        for many in (61, 400):
            with self.assertRaises(TooMany):
                Keeper((((), STOP),) * many, 300)


class Mended(KeeperCase):
    def test_new_deeds_and_a_new_end(self):
        keeper = Keeper(PLAN, 300)
        self.assertEqual(keeper.paper(), COPIES)
        self.assertEqual(keeper.exchange(1, ((("put", "a", 1), TELL), ("go", 3))), (1,))
        self.assertEqual(keeper.plan(), PLAN[:1] + (((("put", "a", 1), TELL), ("go", 3)),) + PLAN[2:])
        self.assertEqual(keeper.other()[1], ((("put", "a", 1), TELL), ("go", 3)))
        self.assertEqual(keeper.paper(), COPIES)
        self.assertEqual(keeper.made(), 1)
        self.lets_by(keeper)

    def test_all_else_stays(self):
        keeper = Keeper(PLAN, 300)
        before = keeper.other()
        self.assertEqual(keeper.exchange(5, ((TELL,) * 12, STOP)), (6,))
        self.assertEqual(keeper.other(), before[:6] + (((TELL,) * 12, STOP),))
        self.assertEqual(keeper.plan(), PLAN[:5] + (((TELL,) * 12, STOP),) + PLAN[6:])

    def test_each_copy_of_the_piece(self):
        keeper = Keeper(PLAN, 300)
        # The answer of this test is known by both copies, and is another one.
        self.assertEqual(keeper.exchange(3, ((), ("less", "a", 2, 4, 5))), (3, 4))
        self.assertEqual(keeper.other()[3:5], (((), ("go", 5)), ((), ("go", 6))))
        self.assertEqual(keeper.made(), 1)
        self.lets_by(keeper)

    def test_to_a_stop(self):
        keeper = Keeper(PLAN, 300)
        self.assertEqual(keeper.exchange(3, ((TELL, TELL), STOP)), (3, 4))
        self.assertEqual(keeper.other()[3:5], (((TELL, TELL), STOP),) * 2)
        # The copies behind stay, though nothing leads to them any more.
        self.assertEqual(keeper.paper(), COPIES)
        self.lets_by(keeper)

    def test_a_piece_without_copies(self):
        keeper = Keeper(PLAN, 300)
        before = keeper.other()
        for piece in (((TELL,), STOP), ((), ("go", 6)), ((("read", "a"),), ("is", "a", 0, 6, 0))):
            self.assertEqual(keeper.exchange(6, piece), ())
            self.assertEqual((keeper.plan()[6], keeper.other(), keeper.paper()), (piece, before, COPIES))
        self.assertEqual(keeper.made(), 1)

    def test_to_the_first_copy_that_covers(self):
        plan = (
            ((("read", "a"),), ("less", "a", 0, 1, 2)),
            ((("put", "b", 1),), ("less", "a", -5, 3, 3)),
            ((("put", "b", 1),), ("go", 3)),
            ((TELL,), STOP),
        )
        keeper = Keeper(plan, 300)
        self.assertEqual([at for at, facts in keeper.paper()], [0, 1, 2, 3, 3, 3])
        self.assertEqual([dict(facts)["a"] for at, facts in keeper.paper()[3:]], [(None, -6), (-5, -1), (0, None)])
        # Of a worth from 0 on none but the last one knows as little as is known.
        self.assertEqual(keeper.exchange(2, ((("put", "b", 1), ("put", "a", 3)), ("go", 3))), (2,))
        self.assertEqual(keeper.other()[2][1], ("go", 5))
        self.assertEqual(keeper.exchange(2, ((("put", "b", 1), ("put", "a", -3)), ("go", 3))), (2,))
        self.assertEqual(keeper.other()[2][1], ("go", 4))
        self.assertEqual(keeper.exchange(2, ((("put", "b", 1), ("put", "a", -6)), ("go", 3))), (2,))
        self.assertEqual(keeper.other()[2][1], ("go", 3))
        self.lets_by(keeper)

    def test_the_first_of_several(self):
        # Piece 3 has a copy that knows a, and one that knows nothing, which comes up behind or ahead of it.
        knows, nothing = (3, (("a", (5, 5)),)), (3, ())
        for yes, no, order in ((3, 2, [knows, nothing]), (2, 3, [nothing, knows])):
            keeper = Keeper((
                ((("read", "a"),), ("is", "a", 5, 1, 1)), ((), ("is", "a", 5, yes, no)), ((), ("go", 3)), ((TELL,), STOP),
            ), 300)
            copies = keeper.paper()
            self.assertEqual([one for one in copies if one[0] == 3], order)
            for number, met in ((5, order[0]), (6, nothing)):
                piece = ((("put", "a", number),), ("go", 3))
                self.assertEqual(keeper.exchange(1, piece), (1, 2))
                self.assertEqual(keeper.other()[1:3], ((piece[0], ("go", copies.index(met))),) * 2)
                self.lets_by(keeper)
            self.assertEqual(keeper.made(), 1)

    def test_an_open_test_with_both_copies(self):
        keeper = Keeper(PLAN, 300)
        self.assertEqual(keeper.exchange(0, ((("read", "b"), TELL), ("less", "b", 0, 1, 2))), (0,))
        self.assertEqual(keeper.other()[0], ((("read", "b"), TELL), ("less", "b", 0, 1, 2)))
        self.assertEqual(keeper.exchange(0, ((("put", "b", -5),), ("less", "b", 0, 1, 2))), (0,))
        self.assertEqual(keeper.other()[0], ((("put", "b", -5),), ("go", 1)))
        self.lets_by(keeper)

    def test_heads_need_not_stay_heads(self):
        plan = (((), ("go", 1)), ((("add", "a", 1),), ("less", "a", 9, 1, 2)), ((TELL,), STOP))
        keeper = Keeper(plan, 300)
        self.assertEqual(keeper.exchange(1, ((), ("go", 2))), None)
        self.assertEqual(keeper.exchange(1, ((TELL,), ("go", 2))), (1,))
        self.lets_by(keeper)


class Anew(KeeperCase):
    def test_where_a_lead_has_no_copy(self):
        keeper = Keeper(PLAN, 300)
        piece = ((("put", "a", 3),), ("go", 3))
        self.assertIsNone(keeper.exchange(2, piece))
        now = PLAN[:2] + (piece,) + PLAN[3:]
        self.assertEqual(keeper.plan(), now)
        self.assertEqual((keeper.other(), keeper.paper()), led_past(now, 300))
        self.assertEqual(keeper.made(), 2)
        self.lets_by(keeper)

    def test_a_piece_that_has_no_copy_at_all(self):
        keeper = Keeper(PLAN, 300)
        self.assertIsNone(keeper.exchange(4, ((), ("go", 6))))
        self.assertEqual((keeper.other(), keeper.paper()), led_past(keeper.plan(), 300))
        self.assertEqual(keeper.made(), 2)
        self.lets_by(keeper)

    def test_one_lead_of_two(self):
        keeper = Keeper(PLAN, 300)
        self.assertIsNone(keeper.exchange(0, ((("read", "b"),), ("less", "b", 0, 1, 6))))
        self.assertEqual(keeper.made(), 2)
        self.assertIsNone(Keeper(PLAN, 300).exchange(0, ((("read", "b"),), ("less", "b", 0, 6, 2))))

    def test_one_copy_of_two(self):
        # Of copy 3 the lead is met, of copy 4 it is not.
        keeper = Keeper(PLAN, 300)
        self.assertIsNone(keeper.exchange(3, ((TELL,), ("go", 4))))
        self.assertEqual((keeper.other(), keeper.paper()), led_past(keeper.plan(), 300))

    def test_by_the_bound(self):
        for most in (1, 4, 5, 300):
            keeper = Keeper(PLAN, most)
            self.assertIsNone(keeper.exchange(0, ((("read", "b"),), ("less", "b", 1, 6, 2))))
            self.assertEqual((keeper.other(), keeper.paper()), led_past(keeper.plan(), most))

    def test_back_and_forth(self):
        keeper = Keeper(PLAN, 300)
        for times in range(1, 11):
            self.assertIsNone(keeper.exchange(3, ((TELL,), ("go", 4))))
            self.assertEqual(keeper.made(), 2 * times)
            self.assertIsNone(keeper.exchange(3, PLAN[3]))
            self.assertEqual(keeper.made(), 2 * times + 1)
            self.assertEqual((keeper.other(), keeper.paper()), led_past(PLAN, 300))


class Refused(KeeperCase):
    def test_no_such_piece(self):
        keeper = Keeper(PLAN, 300)
        before = (keeper.plan(), keeper.other(), keeper.paper(), keeper.made())
        for place in (7, 8, 400, LONG):
            with self.assertRaises(NoPiece):
                keeper.exchange(place, ((), STOP))
            self.assertEqual((keeper.plan(), keeper.other(), keeper.paper(), keeper.made()), before)
        # A number below nought is no piece's either, though a tuple could be asked by it.
        with self.assertRaises(NoPiece):
            keeper.exchange(-1, ((), STOP))
        self.assertTrue(issubclass(NoPiece, PlanError))

    def test_the_last_piece_and_one_beyond(self):
        keeper = Keeper((((), STOP),), 1)
        self.assertEqual(keeper.exchange(0, ((TELL,), STOP)), (0,))
        with self.assertRaises(NoPiece):
            keeper.exchange(1, ((), STOP))
        self.assertEqual(keeper.plan(), (((TELL,), STOP),))


class Exchanges(KeeperCase):
    def piece_like(self, made, plan, place):
        """Often the piece as it is but for its deeds or its end."""
        deeds, end = plan[place]
        new = made.piece(len(plan))
        return made.one_of((new, (deeds, new[1]), (new[0], end), (deeds + (("tell", "b"),), end), (deeds[1:], end)))

    def test_exchanges(self):
        made, counts = Made(101), {"mended": 0, "anew": 0, "none": 0}
        for plan in made_plans(120, 7):
            most = made.one_of((1, 3, 8, 300))
            keeper, plain = Keeper(plan, most), PlainKeeper(plan, most)
            for _ in range(12):
                place = made.below(len(plan))
                piece = self.piece_like(made, keeper.plan(), place)
                piece = (piece[0][:12], piece[1])
                told = keeper.exchange(place, piece)
                self.assertEqual(told, plain.exchange(place, piece))
                counts["anew" if told is None else "mended" if told else "none"] += 1
                self.assertEqual((keeper.plan(), keeper.other(), keeper.paper(), keeper.made()),
                                 (plain.now, plain.past, plain.copies, plain.count))
                self.lets_by(keeper)
                numbers = made.numbers(5)
                for steps in (3, 9, 40):
                    self.assertEqual(run(keeper.plan(), numbers, steps), run(keeper.other(), numbers, steps))
                    told = tuple([keeper.paper()[at][0] for at in seen(keeper.other(), numbers, steps)])
                    self.assertEqual(seen(keeper.plan(), numbers, steps), told)
        self.assertGreater(min(counts.values()), 50)

    def test_a_thousand(self):
        made = Made(103)
        plan = made_plans(12, 12)[-1]
        keeper, plain = Keeper(plan, 40), PlainKeeper(plan, 40)
        for _ in range(1000):
            place = made.below(len(plan))
            piece = made.piece(len(plan)) if made.below(3) else plan[place]
            self.assertEqual(keeper.exchange(place, piece), plain.exchange(place, piece))
        self.lets_by(keeper)
        self.assertEqual((keeper.plan(), keeper.other(), keeper.paper(), keeper.made()),
                         (plain.now, plain.past, plain.copies, plain.count))
        self.assertGreater(keeper.made(), 20)

    def test_sixty_pieces(self):
        pieces = tuple([((("read", "a"),), ("less", "a", at, at + 1, min(at + 2, 59))) for at in range(59)]) + (((), STOP),)
        keeper, plain = Keeper(pieces, 300), PlainKeeper(pieces, 300)
        for at in range(60):
            piece = (pieces[at][0] + (TELL,), pieces[at][1])
            told = keeper.exchange(at, piece)
            self.assertEqual(told, plain.exchange(at, piece))
            self.assertGreater(len(told), 0)
        self.assertEqual(keeper.made(), 1)
        self.lets_by(keeper)


class Apart(KeeperCase):
    def test_two_keepers_of_one_plan(self):
        one, other = Keeper(PLAN, 300), Keeper(PLAN, 1)
        one.exchange(3, ((TELL,), STOP))
        one.exchange(0, ((), ("go", 6)))
        self.assertEqual((other.plan(), other.made()), (PLAN, 1))
        self.assertEqual((other.other(), other.paper()), led_past(PLAN, 1))
        other.exchange(1, ((), STOP))
        self.assertEqual(one.plan()[1], PLAN[1])

    def test_what_was_told_stays_as_it_was(self):
        keeper = Keeper(PLAN, 300)
        told = (keeper.plan(), keeper.other(), keeper.paper())
        held = copy.deepcopy(told)
        keeper.exchange(3, ((), STOP))
        keeper.exchange(0, ((), ("go", 6)))
        self.assertEqual(told, held)

    def test_nothing_handed_in_is_changed(self):
        plan, piece = copy.deepcopy((PLAN, ((TELL,), ("go", 4))))
        keeper = Keeper(plan, 300)
        keeper.exchange(3, piece)
        self.assertEqual((plan, piece), (PLAN, ((TELL,), ("go", 4))))

    def test_told_are_tuples(self):
        keeper = Keeper(PLAN, 300)
        for told in (keeper.plan(), keeper.other(), keeper.paper(), keeper.exchange(6, PLAN[6]), keeper.exchange(3, PLAN[3])):
            self.assertIs(told.__class__, tuple)
        for copied in keeper.paper():
            self.assertEqual((copied.__class__, copied[1].__class__), (tuple, tuple))
        self.assertIs(keeper.made().__class__, int)


if __name__ == "__main__":
    unittest.main()
