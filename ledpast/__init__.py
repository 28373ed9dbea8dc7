"""Ledpast: plans of pieces, and ways that know an answer led past the test."""
