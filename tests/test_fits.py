"""Tests of point 4: tickoff.matching.fits."""

import copy
import inspect
import itertools
import unittest

from marks import fits_by_words
from tickoff import matching
from tickoff.matching import fits

GREAT = 1000000000


def all_on(day, *cents):
    return [(day, some) for some in cents]


class FitsTest(unittest.TestCase):
    def check(self, expected, banks, books, span, match):
        """It is told alike with both lists and both tuples the other way about."""
        self.assertIs(fits(banks, books, span, match), expected, (banks, books, span, match))
        about = (match[1], match[0])
        self.assertIs(fits(books, banks, span, about), expected, (books, banks, span, about))

    def test_the_interface(self):
        self.assertEqual(fits.__module__, "tickoff.matching")
        self.assertTrue(inspect.isfunction(matching.fits))
        self.assertEqual(list(inspect.signature(fits).parameters), ["banks", "books", "span", "match"])
        self.assertIs(fits(match=((0,), (0,)), span=1, books=[(2, 5)], banks=[(1, 5)]), True)

    def test_one_place_against_one(self):
        self.check(True, [(5, 100)], [(5, 100)], 0, ((0,), (0,)))
        banks, books = [(5, 100), (5, 70)], [(5, 70), (5, 80), (5, 100)]
        self.check(True, banks, books, 0, ((0,), (2,)))
        self.check(True, banks, books, 0, ((1,), (0,)))
        self.check(False, banks, books, 0, ((0,), (0,)))
        self.check(False, banks, books, 0, ((1,), (1,)))

    def test_one_place_against_two(self):
        banks, books = all_on(5, 100), all_on(5, 30, 1, 70)
        self.check(True, banks, books, 0, ((0,), (0, 2)))
        self.check(False, banks, books, 0, ((0,), (0, 1)))
        self.check(False, banks, books, 0, ((0,), (1, 2)))

    def test_one_place_against_three(self):
        banks, books = all_on(5, 100), all_on(5, 30, 1, 50, 20)
        self.check(True, banks, books, 0, ((0,), (0, 2, 3)))
        self.check(False, banks, books, 0, ((0,), (0, 1, 2)))
        self.check(False, banks, books, 0, ((0,), (1, 2, 3)))

    def test_one_place_against_four_and_more(self):
        self.check(False, all_on(5, 100), all_on(5, 10, 20, 30, 40), 0, ((0,), (0, 1, 2, 3)))
        self.check(False, all_on(5, 100), all_on(5, 10, 20, 30, 15, 25), 0, ((0,), (0, 1, 2, 3, 4)))

    def test_no_place(self):
        self.check(False, [], [], 30, ((), ()))
        self.check(False, all_on(5, 100), all_on(5, 100), 30, ((), ()))
        self.check(False, all_on(5, 100), all_on(5, 100), 30, ((0,), ()))
        # Their sum is that of no entries at all.
        for cents in ((5, -5), (5, -2, -3)):
            self.check(False, all_on(5, *cents), all_on(5, 1), 30, (tuple(range(len(cents))), ()))

    def test_two_places_against_two_and_more(self):
        banks, books = all_on(5, 30, 70), all_on(5, 30, 70)
        self.check(False, banks, books, 0, ((0, 1), (0, 1)))
        banks, books = all_on(5, 40, 60), all_on(5, 10, 20, 70)
        self.check(False, banks, books, 0, ((0, 1), (0, 1, 2)))
        banks, books = all_on(5, 40, 50, 10), all_on(5, 10, 20, 70)
        self.check(False, banks, books, 0, ((0, 1, 2), (0, 1, 2)))

    def test_a_place_that_is_not_there(self):
        banks, books = all_on(5, 7, 7), all_on(5, 7, 7, 7)
        self.check(True, banks, books, 0, ((1,), (2,)))
        for place in (2, 3, 100, 10 ** 30):
            self.check(False, banks, books, 0, ((place,), (0,)))
        for place in (3, 4, 100, 10 ** 30):
            self.check(False, banks, books, 0, ((0,), (place,)))
        for place in (-1, -2, -3, -4, -100, -10 ** 30):
            self.check(False, banks, books, 0, ((place,), (0,)))
            self.check(False, banks, books, 0, ((0,), (place,)))
        self.check(False, [], books, 0, ((0,), (0,)))
        self.check(False, [], [], 0, ((0,), (0,)))

    def test_a_place_among_others_that_is_not_there(self):
        banks, books = all_on(5, 9), all_on(5, 3, 3, 3, 6)
        self.check(True, banks, books, 0, ((0,), (0, 3)))
        self.check(True, banks, books, 0, ((0,), (0, 1, 2)))
        for places in ((0, 4), (3, 4), (4, 5), (-1, 0), (-1, 2), (-2, 3), (-4, 3), (-4, -1)):
            self.check(False, banks, books, 0, ((0,), places))
        for places in ((0, 1, 4), (0, 1, 5), (-4, 1, 2), (-2, 0, 1), (-4, -3, -2), (-3, -2, 0)):
            self.check(False, banks, books, 0, ((0,), places))

    def test_a_place_twice(self):
        banks, books = all_on(5, 100, 150), all_on(5, 50, 100)
        self.check(True, banks, books, 0, ((1,), (0, 1)))
        self.check(False, banks, books, 0, ((0,), (0, 0)))
        self.check(False, banks, books, 0, ((1,), (0, 0, 0)))
        self.check(False, all_on(5, 200), books, 0, ((0,), (0, 0, 1)))
        self.check(False, all_on(5, 250), books, 0, ((0,), (0, 1, 1)))
        self.check(False, all_on(5, 200), books, 0, ((0,), (0, 1, 0)))
        # As many as one and three places, though of fewer entries.
        self.check(False, all_on(5, 50), all_on(5, 25, 25), 0, ((0,), (0, 1, 1)))
        self.check(False, all_on(5, 50), all_on(5, 50), 0, ((0, 0), (0,)))
        self.check(False, all_on(5, 50), all_on(5, 50), 0, ((0, 0), (0, 0)))

    def test_places_that_do_not_rise(self):
        banks, books = all_on(5, 60), all_on(5, 10, 20, 30, 40)
        self.check(True, banks, books, 0, ((0,), (1, 3)))
        self.check(False, banks, books, 0, ((0,), (3, 1)))
        self.check(True, banks, books, 0, ((0,), (0, 1, 2)))
        for places in itertools.permutations((0, 1, 2)):
            self.check(places == (0, 1, 2), banks, books, 0, ((0,), places))

    def test_sums_alike_and_one_cent_off(self):
        for cents in (1, -1, 2, 77, -77, GREAT, -GREAT):
            for off in (-1, 0, 1):
                with self.subTest(cents=cents, off=off):
                    self.check(off == 0, all_on(5, cents), all_on(5, cents + off), 0, ((0,), (0,)))
                    two = all_on(5, cents + off - 300, 300)
                    self.check(off == 0, all_on(5, cents), two, 0, ((0,), (0, 1)))
                    three = all_on(5, 500, cents + off, -500)
                    self.check(off == 0, all_on(5, cents), three, 0, ((0,), (0, 1, 2)))

    def test_cents_of_the_other_sign(self):
        for cents in (1, 5, GREAT):
            self.check(False, all_on(5, cents), all_on(5, -cents), 30, ((0,), (0,)))
        self.check(False, all_on(5, 100), all_on(5, -30, -70), 30, ((0,), (0, 1)))
        self.check(False, all_on(5, 40), all_on(5, -30, -70), 30, ((0,), (0, 1)))
        self.check(True, all_on(5, 40), all_on(5, -30, 70), 30, ((0,), (0, 1)))
        self.check(True, all_on(5, -40), all_on(5, 30, -70), 30, ((0,), (0, 1)))
        self.check(True, all_on(5, -100), all_on(5, -30, -70), 30, ((0,), (0, 1)))

    def test_great_cents(self):
        self.check(True, all_on(5, GREAT), all_on(5, GREAT, GREAT, -GREAT), 0, ((0,), (0, 1, 2)))
        self.check(False, all_on(5, GREAT), all_on(5, GREAT, GREAT, 1 - GREAT), 0, ((0,), (0, 1, 2)))
        self.check(True, all_on(5, -GREAT), all_on(5, 1 - GREAT, -1), 0, ((0,), (0, 1)))
        self.check(False, all_on(5, -GREAT), all_on(5, 1 - GREAT, -2), 0, ((0,), (0, 1)))
        self.check(False, all_on(5, GREAT), all_on(5, GREAT, GREAT, GREAT), 0, ((0,), (0, 1, 2)))

    def test_days_just_the_span_apart_and_one_more(self):
        for span in (0, 1, 2, 17, 29, 30):
            for first in (0, 100, 9999 - span - 1):
                for more in (0, 1):
                    with self.subTest(span=span, first=first, more=more):
                        last = first + span + more
                        self.check(more == 0, [(first, 9)], [(last, 9)], span, ((0,), (0,)))
                        self.check(more == 0, [(last, 9)], [(first, 9)], span, ((0,), (0,)))

    def test_days_far_apart(self):
        self.check(False, [(0, 9)], [(9999, 9)], 30, ((0,), (0,)))
        self.check(False, [(9999, 9)], [(0, 9)], 30, ((0,), (0,)))

    def test_days_of_several_entries_whichever_is_earliest_and_latest(self):
        for days in itertools.permutations((10, 12, 13, 15)):
            banks = [(days[0], 6)]
            books = [(days[1], 1), (days[2], 2), (days[3], 3)]
            for span in (0, 1, 4, 5, 6, 30):
                with self.subTest(days=days, span=span):
                    self.check(span >= 5, banks, books, span, ((0,), (0, 1, 2)))

    def test_days_of_one_side_alone_too_far_apart(self):
        # Each is near enough to the one on the other side.
        self.check(False, [(12, 3)], [(10, 1), (14, 2)], 2, ((0,), (0, 1)))
        self.check(False, [(12, 3)], [(14, 1), (10, 2)], 3, ((0,), (0, 1)))
        self.check(True, [(12, 3)], [(14, 1), (10, 2)], 4, ((0,), (0, 1)))

    def test_the_days_of_other_entries_have_no_say(self):
        banks, books = [(5, 7), (900, 7)], [(900, 7), (5, 7), (0, 7)]
        self.check(True, banks, books, 0, ((0,), (1,)))
        self.check(True, banks, books, 0, ((1,), (0,)))
        self.check(False, banks, books, 0, ((0,), (0,)))

    def test_small_lists_all_pairs_of_places(self):
        banks = [(4, 2), (6, 1), (4, -1)]
        books = [(5, 1), (4, 1), (5, 2), (7, -1)]
        some = [places for many in range(5) for places in itertools.product(range(-1, 5), repeat=many)]
        few = [places for many in range(3) for places in itertools.product(range(-1, 4), repeat=many)]
        for span in (0, 1, 2):
            fitting = 0
            for match in itertools.product(few, some):
                expected = fits_by_words(banks, books, span, match)
                fitting += expected
                if fits(banks, books, span, match) is not expected:
                    self.fail((span, match, expected))
            self.assertGreater(fitting, 0)

    def test_it_tells_true_or_false(self):
        banks, books = all_on(5, 3, 1), all_on(5, 3, 1, 2)
        for match in (((0,), (0,)), ((0,), (1, 2)), ((0,), (1,)), ((), ()), ((0,), ()), ((9,), (0,)), ((0, 0), (0,))):
            self.assertIs(type(fits(banks, books, 1, match)), bool)

    def test_both_lists_stay_as_they_were(self):
        banks = [(9, 30), (3, -2), (9, 3)]
        books = [(8, 10), (9, 20), (100, 5)]
        held = list(banks), list(books)
        before = copy.deepcopy((banks, books))
        for match in (((0,), (0, 1)), ((0,), (0,)), ((5,), (0,)), ((), ()), ((2, 1), (0,))):
            fits(banks, books, 3, match)
        self.assertEqual((banks, books), before)
        for ours, old in zip((banks, books), held):
            for entry, old_entry in zip(ours, old):
                self.assertIs(entry, old_entry)

    def test_one_list_as_both(self):
        rows = all_on(5, 3, 1, 2)
        self.check(True, rows, rows, 0, ((0,), (1, 2)))
        self.check(True, rows, rows, 0, ((0,), (0,)))

    def test_somewhat_beyond_the_limits(self):
        self.check(True, [(10, GREAT + 5)], [(41, GREAT + 5)], 31, ((0,), (0,)))
        self.check(False, [(10, GREAT + 5)], [(42, GREAT + 5)], 31, ((0,), (0,)))
        self.check(True, [(10001, -GREAT - 5)], [(10000, -GREAT - 5)], 1, ((0,), (0,)))


if __name__ == "__main__":
    unittest.main()
