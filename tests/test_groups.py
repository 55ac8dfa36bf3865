"""Tests of point 3: tickoff.entries.groups."""

import copy
import inspect
import itertools
import unittest

from marks import bank, book, on_days
from tickoff import entries
from tickoff.entries import groups, in_order


class GroupsTest(unittest.TestCase):
    def check(self, banks, books, span):
        """Groups end just where point 3 says, and hold all marks in order."""
        told = groups(banks, books, span)
        marks = in_order(banks, books)
        self.assertEqual([mark for group in told for mark in group], marks)
        lists = {"bank": banks, "book": books}
        ends = []
        for at in range(1, len(marks)):
            side, place = marks[at]
            side_ahead, place_ahead = marks[at - 1]
            if lists[side][place][0] > lists[side_ahead][place_ahead][0] + span:
                ends.append(at)
        cuts = [0] + ends + [len(marks)] if marks else []
        expected = [end - start for start, end in itertools.pairwise(cuts)]
        self.assertEqual([len(group) for group in told], expected, (banks, books, span))

    def test_the_interface(self):
        self.assertEqual(groups.__module__, "tickoff.entries")
        self.assertTrue(inspect.isfunction(entries.groups))
        self.assertEqual(list(inspect.signature(groups).parameters), ["banks", "books", "span"])
        self.assertEqual(groups(span=1, books=[(2, 5)], banks=[(4, 5)]), [book(0), bank(0)])

    def test_no_entries_at_all_make_no_groups(self):
        for span in (0, 1, 30):
            told = groups([], [], span)
            self.assertIs(type(told), list)
            self.assertEqual(told, [])

    def test_one_entry(self):
        for span in (0, 1, 30):
            for day in (0, 1, 31, 9999):
                with self.subTest(span=span, day=day):
                    self.assertEqual(groups([(day, 7)], [], span), [bank(0)])
                    self.assertEqual(groups([], [(day, -7)], span), [book(0)])

    def test_just_the_span_apart_and_one_day_more(self):
        for span in (0, 1, 2, 7, 29, 30):
            for first in (0, 100, 9999 - span - 1):
                near, far = first + span, first + span + 1
                with self.subTest(span=span, first=first):
                    self.assertEqual(groups(on_days(first), on_days(near), span), [bank(0) + book(0)])
                    self.assertEqual(groups(on_days(first), on_days(far), span), [bank(0), book(0)])
                    self.assertEqual(groups(on_days(first, near), [], span), [bank(0, 1)])
                    self.assertEqual(groups(on_days(first, far), [], span), [bank(0), bank(1)])
                    self.assertEqual(groups([], on_days(first, near), span), [book(0, 1)])
                    self.assertEqual(groups([], on_days(far, first), span), [book(1), book(0)])

    def test_span_nought_groups_by_the_day(self):
        told = groups(on_days(3, 1, 3), on_days(2, 3, 1), 0)
        self.assertEqual(told, [bank(1) + book(2), book(0), bank(0, 2) + book(1)])

    def test_span_thirty(self):
        told = groups(on_days(0, 61, 9999), on_days(30, 92, 9969), 30)
        self.assertEqual(told, [bank(0) + book(0), bank(1), book(1), book(2) + bank(2)])

    def test_a_long_row_is_one_group_though_its_ends_are_far_apart(self):
        for span in (1, 5, 30):
            days = [span * step for step in range(300)]
            with self.subTest(span=span):
                told = groups(on_days(*days[::2]), on_days(*days[1::2]), span)
                expected = [("book" if step % 2 else "bank", step // 2) for step in range(300)]
                self.assertEqual(told, [expected])

    def test_a_long_row_falls_apart_where_it_is_cut(self):
        days = [3 * step for step in range(50)] + [151 + 3 * step for step in range(50)]
        told = groups(on_days(*days), [], 3)
        self.assertEqual(told, [bank(*range(50)), bank(*range(50, 100))])

    def test_the_day_counted_from_is_that_of_the_entry_ahead_on_either_side(self):
        self.assertEqual(groups(on_days(10, 14), on_days(12), 2), [bank(0) + book(0) + bank(1)])
        self.assertEqual(groups(on_days(10, 14), [], 2), [bank(0), bank(1)])

    def test_groups_of_more_than_eight_marks(self):
        told = groups(on_days(*[5] * 20), on_days(*[5] * 15), 0)
        self.assertEqual(told, [bank(*range(20)) + book(*range(15))])
        told = groups(on_days(*[5] * 9, *[7] * 10), on_days(*[7] * 3), 1)
        self.assertEqual(told, [bank(*range(9)), bank(*range(9, 19)) + book(0, 1, 2)])

    def test_groups_stand_in_order_whatever_the_order_of_the_lists(self):
        told = groups(on_days(900, 20, 500, 21), on_days(502, 901, 19), 2)
        self.assertEqual(told, [book(2) + bank(1, 3), bank(2) + book(0), bank(0) + book(1)])

    def test_one_behind_the_other_they_are_all_marks_in_order(self):
        banks = on_days(*[step * 37 % 1009 for step in range(200)])
        books = on_days(*[step * 53 % 997 for step in range(170)])
        for span in range(31):
            self.check(banks, books, span)

    def test_small_lists_all_of_them(self):
        days = [row for many in range(4) for row in itertools.product((0, 1, 2, 4), repeat=many)]
        for bank_days, book_days in itertools.product(days, days):
            for span in (0, 1, 2):
                self.check(on_days(*bank_days), on_days(*book_days), span)

    def test_no_group_is_empty_and_all_are_lists_of_marks(self):
        told = groups(on_days(0, 9999, 50), on_days(0, 50, 51, 80), 0)
        self.assertIs(type(told), list)
        for group in told:
            self.assertIs(type(group), list)
            self.assertTrue(group)
            for mark in group:
                self.assertIs(type(mark), tuple)
                self.assertEqual([type(part) for part in mark], [str, int])

    def test_cents_make_no_difference(self):
        days = (4, 9, 6, 20)
        for cents in (1, -1, 1000000000, -1000000000):
            with self.subTest(cents=cents):
                banks = [(day, cents) for day in days]
                books = [(day, -cents) for day in days]
                expected = [bank(0) + book(0) + bank(2) + book(2), bank(1) + book(1), bank(3) + book(3)]
                self.assertEqual(groups(banks, books, 2), expected)

    def test_both_lists_stay_as_they_were(self):
        banks = [(9, 1), (3, -2), (9, 3)]
        books = [(8, 4), (3, -5), (100, 5)]
        held = list(banks), list(books)
        before = copy.deepcopy((banks, books))
        groups(banks, books, 3)
        self.assertEqual((banks, books), before)
        for ours, old in zip((banks, books), held):
            for entry, old_entry in zip(ours, old):
                self.assertIs(entry, old_entry)

    def test_what_is_told_is_new_each_time_the_groups_within_it_too(self):
        banks = on_days(1, 5, 6)
        books = on_days(1, 20)
        expected = [bank(0) + book(0), bank(1, 2), book(1)]
        first = groups(banks, books, 1)
        second = groups(banks, books, 1)
        self.assertEqual(first, expected)
        self.assertIsNot(first, second)
        for group, other in itertools.product(first, second):
            self.assertIsNot(group, other)
        first[0].append("more")
        first[1].clear()
        first.pop()
        self.assertEqual(second, expected)
        self.assertEqual(groups(banks, books, 1), expected)

    def test_the_list_for_no_entries_is_new_each_time(self):
        first = groups([], [], 0)
        first.append([("bank", 0)])
        self.assertEqual(groups([], [], 0), [])

    def test_the_groups_told_are_lists_apart(self):
        told = groups(on_days(1, 3), [], 1)
        told[0].append("more")
        self.assertEqual(told[1], bank(1))

    def test_what_is_told_stays_as_it_is_when_the_entries_change(self):
        banks = on_days(1, 5)
        books = on_days(3)
        told = groups(banks, books, 1)
        banks.append((2, 1))
        books.clear()
        groups(banks, books, 1)
        self.assertEqual(told, [bank(0), book(0), bank(1)])
        self.assertEqual(groups(banks, books, 1), [bank(0, 2), bank(1)])

    def test_somewhat_beyond_the_limits_raises_nothing(self):
        self.assertEqual(groups(on_days(0, 31), on_days(63), 31), [bank(0, 1), book(0)])
        self.assertEqual(groups([(10000, 0), (-1, 1000000001)], [(9998, -1000000001), (0, 1)], 2),
                         [bank(1) + book(1), book(0) + bank(0)])
        self.assertEqual(groups(on_days(-7), on_days(-5, -4), 1), [bank(0), book(0, 1)])
        self.assertEqual(groups(on_days(5, 5), [], -1), [bank(0), bank(1)])


if __name__ == "__main__":
    unittest.main()
