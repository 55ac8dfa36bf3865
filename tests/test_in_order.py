"""Tests of points 1 and 2: tickoff.entries.in_order."""

import copy
import inspect
import itertools
import unittest

from marks import bank, book, on_days
from tickoff import entries
from tickoff.entries import in_order


def comes_ahead(mark, other, banks, books):
    """Point 2, written out case by case for two marks."""
    lists = {"bank": banks, "book": books}
    day = lists[mark[0]][mark[1]][0]
    other_day = lists[other[0]][other[1]][0]
    if day != other_day:
        return day < other_day
    if mark[0] != other[0]:
        return mark[0] == "bank"
    return mark[1] < other[1]


class InOrderTest(unittest.TestCase):
    def check(self, banks, books):
        """Each mark is there once, each two neighbours as point 2 says."""
        told = in_order(banks, books)
        all_marks = bank(*range(len(banks))) + book(*range(len(books)))
        self.assertEqual(sorted(told), sorted(all_marks))
        for mark, other in itertools.pairwise(told):
            self.assertTrue(comes_ahead(mark, other, banks, books), (mark, other, banks, books))

    def test_the_interface(self):
        self.assertEqual(in_order.__module__, "tickoff.entries")
        self.assertTrue(inspect.isfunction(entries.in_order))
        self.assertEqual(list(inspect.signature(in_order).parameters), ["banks", "books"])
        self.assertEqual(in_order(books=[(2, 5)], banks=[(3, 5)]), book(0) + bank(0))

    def test_no_entries_at_all(self):
        told = in_order([], [])
        self.assertIs(type(told), list)
        self.assertEqual(told, [])

    def test_one_side_alone(self):
        self.assertEqual(in_order([(4, 10)], []), bank(0))
        self.assertEqual(in_order([], [(4, 10)]), book(0))
        self.assertEqual(in_order([(4, 10), (2, 7), (9, -3)], []), bank(1, 0, 2))
        self.assertEqual(in_order([], [(4, 10), (2, 7), (9, -3)]), book(1, 0, 2))

    def test_the_earlier_day_stands_ahead_on_either_side(self):
        self.assertEqual(in_order([(5, 1)], [(6, 1)]), bank(0) + book(0))
        self.assertEqual(in_order([(6, 1)], [(5, 1)]), book(0) + bank(0))

    def test_several_of_one_day_on_one_side_stand_by_place(self):
        self.assertEqual(in_order([(5, 9), (5, 1), (5, 4)], []), bank(0, 1, 2))
        self.assertEqual(in_order([], [(5, 9), (5, 1), (5, 4)]), book(0, 1, 2))

    def test_several_of_one_day_on_both_sides(self):
        told = in_order([(5, 9), (5, 1)], [(5, 2), (5, 1), (5, 8)])
        self.assertEqual(told, bank(0, 1) + book(0, 1, 2))

    def test_the_side_goes_ahead_of_the_place(self):
        told = in_order([(9, 1), (5, 1)], [(5, 1), (9, 1)])
        self.assertEqual(told, bank(1) + book(0) + bank(0) + book(1))

    def test_days_out_of_their_order(self):
        banks = [(30, 1), (10, 2), (20, 3), (10, 4)]
        books = [(20, 5), (40, 6), (10, 7), (0, 8)]
        told = in_order(banks, books)
        expected = book(3) + bank(1, 3) + book(2) + bank(2) + book(0) + bank(0) + book(1)
        self.assertEqual(told, expected)

    def test_the_first_and_the_last_day(self):
        self.assertEqual(in_order([(9999, 1), (0, 1)], [(9999, 1), (0, 1)]),
                         bank(1) + book(1) + bank(0) + book(0))

    def test_days_stand_as_numbers(self):
        self.assertEqual(in_order([(100, 1), (20, 1)], [(3, 1)]), book(0) + bank(1, 0))

    def test_lists_much_longer_than_eight(self):
        banks = [(7, 1 + place) for place in range(120)]
        books = [(7, 200 - place) for place in range(150)]
        self.assertEqual(in_order(banks, books), bank(*range(120)) + book(*range(150)))
        banks = [(place * 37 % 101, 5) for place in range(300)]
        books = [(place * 53 % 97, -5) for place in range(250)]
        self.check(banks, books)
        banks = [(9999 - place, 1) for place in range(1000)]
        self.assertEqual(in_order(banks, []), bank(*range(999, -1, -1)))

    def test_small_lists_all_of_them(self):
        days = [row for many in range(4) for row in itertools.product((0, 1, 9999), repeat=many)]
        for bank_days, book_days in itertools.product(days, days):
            self.check(on_days(*bank_days), on_days(*book_days))

    def test_each_mark_is_a_tuple_of_a_text_and_a_whole_number(self):
        told = in_order([(3, 1), (1, 2)], [(2, 3), (3, 4)])
        self.assertIs(type(told), list)
        for mark in told:
            self.assertIs(type(mark), tuple)
            self.assertEqual([type(part) for part in mark], [str, int])
        self.assertEqual(len(set(told)), 4)

    def test_like_entries_have_a_mark_each(self):
        self.assertEqual(in_order([(3, 7)] * 3, [(3, 7)] * 2), bank(0, 1, 2) + book(0, 1))

    def test_cents_make_no_difference(self):
        banks_days = (4, 2, 4, 2)
        books_days = (2, 4, 3)
        expected = bank(1, 3) + book(0, 2) + bank(0, 2) + book(1)
        for cents in ((1, -1), (-1, 1), (1000000000, -1000000000), (-1000000000, 1000000000), (5, 5)):
            with self.subTest(cents=cents):
                banks = [(day, cents[place % 2]) for place, day in enumerate(banks_days)]
                books = [(day, cents[place // 2]) for place, day in enumerate(books_days)]
                self.assertEqual(in_order(banks, books), expected)

    def test_both_lists_stay_as_they_were(self):
        banks = [(9, 1), (3, -2), (9, 3)]
        books = [(8, 4), (3, -5)]
        held = list(banks), list(books)
        before = copy.deepcopy((banks, books))
        in_order(banks, books)
        self.assertEqual((banks, books), before)
        for ours, old in zip((banks, books), held):
            for entry, old_entry in zip(ours, old):
                self.assertIs(entry, old_entry)

    def test_one_list_as_both(self):
        rows = [(2, 1), (1, 1)]
        self.assertEqual(in_order(rows, rows), bank(1) + book(1) + bank(0) + book(0))
        self.assertEqual(rows, [(2, 1), (1, 1)])

    def test_the_list_told_is_a_new_one_each_time(self):
        for banks, books in (([(5, 1)], [(4, 1)]), ([(5, 1)], []), ([], [(5, 1)]), ([], [])):
            with self.subTest(banks=banks, books=books):
                first = in_order(banks, books)
                expected = list(first)
                second = in_order(banks, books)
                self.assertIsNot(first, second)
                first.append("more")
                self.assertEqual(second, expected)
                second.clear()
                self.assertEqual(in_order(banks, books), expected)

    def test_the_list_told_stays_as_it_is_when_the_entries_change(self):
        banks = [(5, 1)]
        books = [(4, 1)]
        told = in_order(banks, books)
        banks.append((3, 1))
        books.clear()
        in_order(banks, books)
        self.assertEqual(told, book(0) + bank(0))
        self.assertEqual(in_order(banks, books), bank(1, 0))

    def test_somewhat_beyond_the_limits_raises_nothing(self):
        banks = [(10000, 1), (-1, 0), (10050, 1000000001)]
        books = [(9999, -1000000001), (0, 0), (-2, 1)]
        self.assertEqual(in_order(banks, books), book(2) + bank(1) + book(1, 0) + bank(0, 2))


if __name__ == "__main__":
    unittest.main()
