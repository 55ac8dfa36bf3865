"""Tests of points 1, 8, 9 and 10: tickoff.ledger.Ledger, and its put."""

import inspect
import unittest

from marks import OTHER_KINDS, bank, book, put_all, told_by
from tickoff import ledger as ledger_file
from tickoff.errors import BadEntry, BadSpan, TickError, TooMany
from tickoff.ledger import Ledger

METHODS = {
    "put": ["side", "day", "cents"],
    "entry": ["side", "place"],
    "matches": [],
    "barred": [],
    "left": ["side"],
    "group_of": ["side", "place"],
    "take_back": ["match"],
    "again": [],
}
GREAT = 1000000000


class SpanTest(unittest.TestCase):
    def test_the_interface(self):
        self.assertIsInstance(ledger_file.Ledger, type)
        self.assertEqual(Ledger.__module__, "tickoff.ledger")
        self.assertEqual(list(inspect.signature(Ledger).parameters), ["span"])
        for name, parameters in METHODS.items():
            with self.subTest(name=name):
                self.assertTrue(inspect.isfunction(vars(Ledger)[name]))
                found = list(inspect.signature(vars(Ledger)[name]).parameters)
                self.assertEqual(found[1:], parameters)

    def test_arguments_by_their_names(self):
        ledger = Ledger(span=3)
        self.assertEqual(ledger.put(side="bank", day=1, cents=5), 0)
        self.assertEqual(ledger.put(cents=5, day=4, side="book"), 0)
        self.assertEqual(ledger.entry(side="book", place=0), (4, 5))
        self.assertEqual(ledger.group_of(side="book", place=0), bank(0) + book(0))
        self.assertIsNone(ledger.take_back(match=((0,), (0,))))
        self.assertEqual(ledger.left(side="bank"), [0])

    def test_each_span_from_nought_to_thirty(self):
        for span in range(31):
            with self.subTest(span=span):
                near = put_all(Ledger(span), ("bank", 100, 5), ("book", 100 + span, 5))
                self.assertEqual(near.matches(), [((0,), (0,))])
                self.assertEqual(near.group_of("bank", 0), bank(0) + book(0))
                far = put_all(Ledger(span), ("bank", 100, 5), ("book", 101 + span, 5))
                self.assertEqual(far.matches(), [])
                self.assertEqual(far.group_of("bank", 0), bank(0))

    def test_spans_beyond_the_bounds(self):
        for span in (-1, 31, -2, 32, -30, 60, 1000, 10 ** 30, -10 ** 30):
            with self.subTest(span=span):
                with self.assertRaises(BadSpan):
                    Ledger(span)

    def test_spans_of_other_kinds(self):
        for span in OTHER_KINDS:
            with self.subTest(span=span):
                with self.assertRaises(BadSpan):
                    Ledger(span)

    def test_at_first_all_is_empty(self):
        ledger = Ledger(0)
        for told in (ledger.matches(), ledger.barred(), ledger.left("bank"), ledger.left("book")):
            self.assertIs(type(told), list)
            self.assertEqual(told, [])


class PutTest(unittest.TestCase):
    def check_refused(self, ledger, error, *row):
        """It is refused, and nothing at all changes."""
        before = told_by(ledger)
        with self.assertRaises(error, msg=row):
            ledger.put(*row)
        self.assertEqual(told_by(ledger), before, row)

    def test_the_place_is_told(self):
        ledger = Ledger(1)
        told = [ledger.put(side, day, 7) for side, day in (
            ("bank", 50), ("book", 90), ("bank", 10), ("bank", 99), ("book", 20), ("book", 3), ("bank", 0))]
        self.assertEqual(told, [0, 0, 1, 2, 1, 2, 3])
        self.assertEqual([type(place) for place in told], [int] * 7)
        entries = [ledger.entry("bank", place) for place in range(4)]
        self.assertEqual(entries, [(50, 7), (10, 7), (99, 7), (0, 7)])
        self.assertEqual([ledger.entry("book", place) for place in range(3)], [(90, 7), (20, 7), (3, 7)])

    def test_each_bound_and_one_beyond_it(self):
        for side in ("bank", "book"):
            ledger = Ledger(0)
            for place, (day, cents) in enumerate((
                    (0, 5), (9999, 5), (1, 1), (1, -1), (2, GREAT), (2, -GREAT), (0, -GREAT), (9999, GREAT))):
                self.assertEqual(ledger.put(side, day, cents), place)
                self.assertEqual(ledger.entry(side, place), (day, cents))
            for day, cents in ((-1, 5), (10000, 5), (1, 0), (2, GREAT + 1), (2, -GREAT - 1), (0, 0), (9999, 0)):
                self.check_refused(ledger, BadEntry, side, day, cents)

    def test_far_beyond_the_bounds(self):
        ledger = put_all(Ledger(0), ("bank", 5, 5))
        for day in (-2, -9999, 10001, 100000, 10 ** 30, -10 ** 30):
            self.check_refused(ledger, BadEntry, "bank", day, 5)
        for cents in (2 * GREAT, -2 * GREAT, 10 ** 30, -10 ** 30):
            self.check_refused(ledger, BadEntry, "book", 5, cents)
        self.check_refused(ledger, BadEntry, "book", -1, 0)

    def test_sides_that_are_none(self):
        ledger = put_all(Ledger(1), ("bank", 5, 5), ("book", 5, 5))
        for side in OTHER_KINDS + ("bank\n", "BANK", "books", "banks", "ban", "bankbook", 0, 1, 5):
            self.check_refused(ledger, BadEntry, side, 5, 5)

    def test_days_and_cents_of_other_kinds(self):
        ledger = put_all(Ledger(1), ("bank", 5, 5), ("book", 5, 5))
        for odd in OTHER_KINDS:
            for side in ("bank", "book"):
                self.check_refused(ledger, BadEntry, side, odd, 5)
                self.check_refused(ledger, BadEntry, side, 5, odd)
            self.check_refused(ledger, BadEntry, odd, odd, odd)

    def test_behind_a_refusal_the_next_place_is_the_same(self):
        ledger = put_all(Ledger(1), ("bank", 5, 5))
        self.check_refused(ledger, BadEntry, "bank", 5, 0)
        self.check_refused(ledger, BadEntry, "book", -1, 5)
        self.assertEqual(ledger.put("bank", 5, 5), 1)
        self.assertEqual(ledger.put("book", 5, 5), 0)

    def test_a_bad_entry_does_not_pick_anew(self):
        ledger = put_all(Ledger(1), ("bank", 5, 5), ("book", 5, 5), ("book", 5, 5))
        ledger.take_back(((0,), (0,)))
        self.check_refused(ledger, BadEntry, "bank", 5, 0)
        self.check_refused(ledger, BadEntry, "bank", None, 5)
        self.assertEqual(ledger.matches(), [])

    def test_the_ninth_entry_of_a_group(self):
        for many in range(9):
            rows = [("bank", 50, 1 + place) for place in range(many)]
            rows += [("book", 50, 100 + place) for place in range(8 - many)]
            ledger = put_all(Ledger(3), *rows)
            for side in ("bank", "book"):
                for day in (47, 50, 53):
                    self.check_refused(ledger, TooMany, side, day, 1)
            # The place is still free, and another group is not full.
            self.assertEqual(ledger.put("bank", 46, 1), many)
            self.assertEqual(ledger.put("book", 54, 1), 8 - many)

    def test_a_group_over_many_days_has_up_to_eight_too(self):
        ledger = put_all(Ledger(2), *[("bank", 10 + 2 * step, 1) for step in range(8)])
        self.assertEqual(ledger.group_of("bank", 7), bank(*range(8)))
        for day in (8, 9, 10, 11, 17, 24, 25, 26):
            self.check_refused(ledger, TooMany, "book", day, 1)
        put_all(ledger, ("book", 7, 1), ("book", 27, 1))
        self.assertEqual(ledger.group_of("bank", 7), bank(*range(8)))

    def test_an_entry_that_would_join_two_groups_to_more_than_eight(self):
        for many in range(1, 9):
            for more in range(1, 9):
                ledger = Ledger(2)
                put_all(ledger, *[("bank", 10, 1 + place) for place in range(many)])
                put_all(ledger, *[("book", 14, 1 + place) for place in range(more)])
                if many + more < 8:
                    self.assertEqual(ledger.put("book", 12, 77), more)
                    expected = bank(*range(many)) + book(more) + book(*range(more))
                    self.assertEqual(ledger.group_of("bank", 0), expected)
                else:
                    self.check_refused(ledger, TooMany, "bank", 12, 77)
                    self.check_refused(ledger, TooMany, "book", 12, 77)
                    self.assertEqual(ledger.group_of("bank", 0), bank(*range(many)))
                    self.assertEqual(ledger.group_of("book", 0), book(*range(more)))

    def test_too_many_does_not_pick_anew(self):
        ledger = Ledger(0)
        put_all(ledger, ("bank", 5, 5), ("book", 5, 5), ("book", 5, 5), *[("bank", 5, 100)] * 5)
        ledger.take_back(((0,), (0,)))
        put_all(ledger, ("bank", 9, 9), ("book", 9, 9), ("book", 9, 9))
        ledger.take_back(((6,), (2,)))
        self.check_refused(ledger, TooMany, "book", 5, 100)
        self.check_refused(ledger, TooMany, "bank", 5, 5)
        self.assertEqual(ledger.matches(), [])
        self.assertEqual(ledger.barred(), [((0,), (0,)), ((6,), (2,))])

    def test_too_many_keeps_the_matches(self):
        ledger = put_all(Ledger(0), *[(side, 5, cents) for cents in (1, 2, 3, 4) for side in ("bank", "book")])
        self.assertEqual(ledger.matches(), [((place,), (place,)) for place in range(4)])
        self.check_refused(ledger, TooMany, "book", 5, 1)
        self.assertEqual(ledger.matches(), [((place,), (place,)) for place in range(4)])

    def test_bad_entry_goes_ahead_of_too_many(self):
        ledger = put_all(Ledger(2), *[("bank", 5, 1)] * 8)
        self.check_refused(ledger, TooMany, "bank", 5, 1)
        self.check_refused(ledger, BadEntry, "bank", 5, 0)
        self.check_refused(ledger, BadEntry, "bank", 5, GREAT + 1)
        self.check_refused(ledger, BadEntry, "bank", 5, True)
        self.check_refused(ledger, BadEntry, "shop", 5, 1)
        self.check_refused(ledger, BadEntry, None, 5, 1)
        ledger = put_all(Ledger(2), *[("bank", 0, 1)] * 8)
        self.check_refused(ledger, BadEntry, "bank", -1, 1)

    def test_each_refusal_is_a_tick_error(self):
        with self.assertRaises(TickError):
            Ledger(31)
        ledger = put_all(Ledger(2), *[("bank", 5, 1)] * 8)
        for row in (("bank", 5, 0), ("bank", 5, 1)):
            with self.assertRaises(TickError):
                ledger.put(*row)


class PickedAnewTest(unittest.TestCase):
    def test_a_match_comes_with_its_last_entry(self):
        ledger = put_all(Ledger(1), ("bank", 5, 9), ("book", 5, 2), ("book", 6, 3))
        self.assertEqual(ledger.matches(), [])
        ledger.put("book", 5, 4)
        self.assertEqual(ledger.matches(), [((0,), (0, 1, 2))])

    def test_the_groups_matches_go_where_others_leave_fewer(self):
        ledger = put_all(Ledger(0), ("bank", 5, 10), ("book", 5, 10))
        self.assertEqual(ledger.matches(), [((0,), (0,))])
        ledger.put("book", 5, 4)
        self.assertEqual(ledger.matches(), [((0,), (0,))])
        ledger.put("book", 5, 6)
        self.assertEqual(ledger.matches(), [((0,), (1, 2))])
        ledger.put("bank", 5, 10)
        self.assertEqual(ledger.matches(), [((0,), (0,)), ((1,), (1, 2))])

    def test_an_earlier_entry_can_take_the_match_over(self):
        ledger = put_all(Ledger(1), ("bank", 6, 5), ("book", 6, 5))
        self.assertEqual(ledger.matches(), [((0,), (0,))])
        ledger.put("bank", 5, 5)
        self.assertEqual(ledger.matches(), [((1,), (0,))])
        ledger.put("book", 7, 5)
        self.assertEqual(ledger.matches(), [((0,), (1,)), ((1,), (0,))])

    def test_an_entry_that_fits_nothing_leaves_the_matches(self):
        ledger = put_all(Ledger(1), ("bank", 5, 5), ("book", 5, 5), ("book", 6, 8))
        self.assertEqual(ledger.matches(), [((0,), (0,))])
        self.assertEqual(ledger.left("book"), [1])

    def test_the_group_of_the_new_mark_is_picked_anew_whole(self):
        ledger = put_all(Ledger(0), ("bank", 5, 5), ("book", 5, 5), ("book", 5, 5))
        ledger.take_back(((0,), (0,)))
        self.assertEqual(ledger.matches(), [])
        ledger.put("bank", 5, 99)
        self.assertEqual(ledger.matches(), [((0,), (1,))])

    def test_two_groups_that_are_joined_are_picked_anew_both(self):
        ledger = put_all(Ledger(2), ("bank", 10, 5), ("book", 10, 5), ("book", 10, 5))
        put_all(ledger, ("book", 14, 7), ("bank", 14, 7), ("bank", 14, 7))
        ledger.take_back(((0,), (0,)))
        ledger.take_back(((1,), (2,)))
        self.assertEqual(ledger.matches(), [])
        ledger.put("book", 12, 99)
        self.assertEqual(ledger.matches(), [((0,), (1,)), ((2,), (2,))])
        self.assertEqual(ledger.group_of("bank", 0), bank(0) + book(0, 1, 3) + bank(1, 2) + book(2))

    def test_a_match_of_either_joined_group_goes(self):
        rows = [("bank", 10, 5), ("book", 10, 5), ("book", 10, 1), ("bank", 14, 7), ("book", 14, 7)]
        ledger = put_all(Ledger(2), *rows)
        self.assertEqual(ledger.matches(), [((0,), (0,)), ((1,), (2,))])
        # 1 and 4 make 5: one mark is left instead of two.
        ledger.put("book", 12, 4)
        self.assertEqual(ledger.matches(), [((1,), (2,)), ((0,), (1, 3))])
        ledger = put_all(Ledger(2), *rows, ("book", 14, 3))
        self.assertEqual(ledger.matches(), [((0,), (0,)), ((1,), (2,))])
        # So do 3 and 4 make 7: as few are left, and the first mark's first match is picked.
        ledger.put("book", 12, 4)
        self.assertEqual(ledger.matches(), [((0,), (0,)), ((1,), (3, 4))])

    def test_a_match_over_what_was_two_groups(self):
        ledger = put_all(Ledger(2), ("bank", 10, 5), ("book", 10, 5), ("book", 13, 4), ("bank", 13, 4))
        self.assertEqual(ledger.matches(), [((0,), (0,)), ((1,), (1,))])
        ledger.put("book", 12, 1)
        self.assertEqual(ledger.matches(), [((0,), (0,)), ((1,), (1,))])
        ledger.put("bank", 12, 9)
        self.assertEqual(ledger.left("bank"), [2])
        ledger.put("book", 11, 5)
        # 9 is 5 and 4 of either side of what was the gap, so the other 4 is left.
        self.assertEqual(ledger.matches(), [((0,), (0,)), ((2,), (1, 3))])
        self.assertEqual((ledger.left("bank"), ledger.left("book")), ([1], [2]))

    def test_all_other_matches_stay(self):
        ledger = put_all(Ledger(0), ("bank", 1, 5), ("book", 1, 5), ("bank", 9, 5), ("book", 9, 5))
        put_all(ledger, ("bank", 5, 7), ("book", 5, 7))
        self.assertEqual(ledger.matches(), [((0,), (0,)), ((1,), (1,)), ((2,), (2,))])
        ledger.put("book", 5, 1)
        self.assertEqual(ledger.matches(), [((0,), (0,)), ((1,), (1,)), ((2,), (2,))])

    def test_no_other_group_is_picked_anew(self):
        ledger = put_all(Ledger(1), ("bank", 1, 5), ("book", 1, 5), ("book", 1, 5))
        put_all(ledger, ("bank", 9, 6), ("book", 9, 6), ("book", 9, 6))
        ledger.take_back(((0,), (0,)))
        ledger.take_back(((1,), (2,)))
        for day in (3, 5, 7, 100):
            ledger.put("bank", day, 5)
            self.assertEqual(ledger.matches(), [])
        ledger.put("book", 2, 1)
        # This joins the first group, and day 3's with it.
        self.assertEqual(ledger.matches(), [((0,), (1,))])
        ledger.put("book", 8, 1)
        self.assertEqual(ledger.matches(), [((0,), (1,)), ((1,), (3,))])

    def test_barred_matches_do_not_come_back(self):
        ledger = put_all(Ledger(1), ("bank", 5, 5), ("book", 5, 5))
        ledger.take_back(((0,), (0,)))
        ledger.put("book", 6, 1)
        self.assertEqual(ledger.matches(), [])
        ledger.put("bank", 6, 5)
        self.assertEqual(ledger.matches(), [((1,), (0,))])
        ledger.put("book", 6, 5)
        self.assertEqual(ledger.matches(), [((0,), (2,)), ((1,), (0,))])
        self.assertEqual(ledger.barred(), [((0,), (0,))])

    def test_another_match_of_a_barred_ones_marks_can_come(self):
        ledger = put_all(Ledger(0), ("bank", 5, 10), ("book", 5, 4), ("book", 5, 6))
        ledger.take_back(((0,), (0, 1)))
        ledger.put("book", 5, 1)
        self.assertEqual(ledger.matches(), [])
        ledger.put("book", 5, 4)
        self.assertEqual(ledger.matches(), [((0,), (1, 3))])

    def test_it_is_picked_as_point_8_says(self):
        ledger = put_all(Ledger(3), ("book", 1, 5), ("bank", 2, 5), ("bank", 2, 5))
        self.assertEqual(ledger.matches(), [((0,), (0,))])
        ledger = put_all(Ledger(3), ("bank", 1, 5), ("book", 2, 2), ("book", 2, 3), ("book", 2, 5))
        # The larger match leaves fewer.
        self.assertEqual(ledger.matches(), [((0,), (0, 1))])
        ledger = put_all(Ledger(1), ("bank", 1, 5), ("book", 2, 5), ("book", 1, 5), ("bank", 3, 5))
        self.assertEqual(ledger.matches(), [((0,), (1,)), ((1,), (0,))])


if __name__ == "__main__":
    unittest.main()
