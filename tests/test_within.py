"""Tests of points 4 and 5: tickoff.matching.marks_of and within."""

import copy
import inspect
import itertools
import unittest

from marks import bank, book, fits_by_words, in_match_order, numbers, within_by_words
from tickoff import matching
from tickoff.entries import groups, in_order
from tickoff.matching import marks_of, within


class MarksOfTest(unittest.TestCase):
    def test_the_interface(self):
        self.assertEqual(marks_of.__module__, "tickoff.matching")
        self.assertTrue(inspect.isfunction(matching.marks_of))
        self.assertEqual(list(inspect.signature(marks_of).parameters), ["match"])
        self.assertEqual(marks_of(match=((3,), (1,))), bank(3) + book(1))

    def test_the_banks_marks_stand_ahead(self):
        self.assertEqual(marks_of(((0,), (0,))), [("bank", 0), ("book", 0)])
        self.assertEqual(marks_of(((9,), (1,))), [("bank", 9), ("book", 1)])

    def test_several_stand_by_place(self):
        self.assertEqual(marks_of(((5,), (2, 10))), bank(5) + book(2, 10))
        self.assertEqual(marks_of(((5,), (2, 7, 10))), bank(5) + book(2, 7, 10))
        self.assertEqual(marks_of(((2, 10), (4,))), bank(2, 10) + book(4))
        self.assertEqual(marks_of(((0, 3, 100), (7,))), bank(0, 3, 100) + book(7))

    def test_any_two_rows_of_places(self):
        self.assertEqual(marks_of(((), ())), [])
        self.assertEqual(marks_of(((), (1, 2))), book(1, 2))
        self.assertEqual(marks_of(((1, 2), ())), bank(1, 2))
        self.assertEqual(marks_of(((1, 2), (0, 3))), bank(1, 2) + book(0, 3))
        self.assertEqual(marks_of((tuple(range(9)), tuple(range(12)))), bank(*range(9)) + book(*range(12)))

    def test_it_is_a_list_of_tuples(self):
        told = marks_of(((1, 2), (0,)))
        self.assertIs(type(told), list)
        for mark in told:
            self.assertIs(type(mark), tuple)
            self.assertEqual([type(part) for part in mark], [str, int])

    def test_the_list_told_is_a_new_one_each_time(self):
        for match in (((1,), (0,)), ((1, 2), (0,)), ((), ())):
            first = marks_of(match)
            expected = list(first)
            second = marks_of(match)
            self.assertIsNot(first, second)
            first.append("more")
            self.assertEqual(second, expected)
            second.clear()
            self.assertEqual(marks_of(match), expected)


class WithinTest(unittest.TestCase):
    def check(self, banks, books, span, group):
        told = within(banks, books, span, group)
        expected = within_by_words(banks, books, span, group)
        self.assertEqual(told, expected, (banks, books, span, group))
        return told

    def test_the_interface(self):
        self.assertEqual(within.__module__, "tickoff.matching")
        self.assertTrue(inspect.isfunction(matching.within))
        self.assertEqual(list(inspect.signature(within).parameters), ["banks", "books", "span", "group"])
        told = within(group=bank(0) + book(0), span=1, books=[(2, 5)], banks=[(1, 5)])
        self.assertEqual(told, [((0,), (0,))])

    def test_none_at_all(self):
        for banks, books in (([], []), ([(5, 1)], []), ([], [(5, 1)]), ([(5, 1)], [(5, 2)]), ([(5, 1)], [(5, -1)])):
            told = within(banks, books, 30, in_order(banks, books))
            self.assertIs(type(told), list)
            self.assertEqual(told, [])
        # Two against two alone would do.
        self.assertEqual(within([(5, 1), (5, 4)], [(5, 2), (5, 3)], 30, bank(0, 1) + book(0, 1)), [])
        # So would four against one.
        self.assertEqual(within([(5, 10)], [(5, 1), (5, 2), (5, 3), (5, 4)], 30, bank(0) + book(0, 1, 2, 3)), [])

    def test_each_kind_of_match(self):
        banks = [(5, 6), (5, 100), (5, 1000)]
        books = [(5, 6), (5, 30), (5, 70), (5, 200), (5, 300), (5, 500)]
        expected = [((0,), (0,)), ((1,), (1, 2)), ((2,), (3, 4, 5))]
        self.assertEqual(within(banks, books, 0, in_order(banks, books)), expected)
        about = [(theirs, ours) for ours, theirs in expected]
        self.assertEqual(within(books, banks, 0, in_order(books, banks)), about)

    def test_fewer_entries_stand_first(self):
        banks = [(5, 10), (5, 10)]
        books = [(5, 2), (5, 3), (5, 5), (5, 8), (5, 10)]
        expected = [((0,), (4,)), ((1,), (4,)), ((0,), (0, 3)), ((1,), (0, 3)), ((0,), (0, 1, 2)), ((1,), (0, 1, 2))]
        self.assertEqual(within(banks, books, 0, in_order(banks, books)), expected)

    def test_those_of_as_many_stand_by_their_two_tuples(self):
        banks = [(5, 4), (5, 6), (5, 10), (5, 2)]
        books = [(5, 10), (5, 4), (5, 6), (5, 2)]
        expected = [
            ((0,), (1,)), ((1,), (2,)), ((2,), (0,)), ((3,), (3,)),
            ((0, 1), (0,)), ((0, 3), (2,)), ((1,), (1, 3)), ((2,), (1, 2)),
        ]
        self.assertEqual(within(banks, books, 0, in_order(banks, books)), expected)

    def test_tuples_stand_as_numbers_do(self):
        banks = [(5, 1)] * 11 + [(5, 11)] * 2
        books = [(5, 1)]
        told = within(banks, books, 0, in_order(banks, books))
        self.assertEqual(told, [((place,), (0,)) for place in range(11)])

    def test_places_of_a_group_that_do_not_rise_as_they_stand(self):
        banks = [(9, 3), (7, 4), (8, 5)]
        books = [(8, 12)]
        group = in_order(banks, books)
        self.assertEqual(group, bank(1, 2) + book(0) + bank(0))
        self.assertEqual(within(banks, books, 2, group), [((0, 1, 2), (0,))])
        self.assertEqual(within(books, banks, 2, in_order(books, banks)), [((0,), (0, 1, 2))])

    def test_days_too_far_apart_within_one_group(self):
        banks = [(10, 5), (14, 5)]
        books = [(12, 5), (16, 5)]
        group = in_order(banks, books)
        self.assertEqual(groups(banks, books, 2), [group])
        self.assertEqual(within(banks, books, 2, group), [((0,), (0,)), ((1,), (0,)), ((1,), (1,))])
        self.assertEqual(within(banks, books, 1, group), [])
        self.assertEqual(len(within(banks, books, 6, group)), 4)

    def test_a_group_that_is_a_part_of_all_entries(self):
        banks = [(100, 5), (5, 5), (101, 2)]
        books = [(5, 5), (100, 5), (102, 3), (101, 5), (300, 5)]
        told = [within(banks, books, 1, group) for group in groups(banks, books, 1)]
        second = [((0,), (1,)), ((0,), (3,)), ((0,), (2,))]
        self.assertEqual(told, [[((1,), (0,))], second[:2], []])
        self.assertEqual(within(banks, books, 1, bank(0, 2) + book(3)), [((0,), (3,))])
        self.assertEqual(within(banks, books, 30, bank(0) + book(1)), [((0,), (1,))])
        self.assertEqual(within(banks, books, 30, book(1, 2, 3)), [])
        self.assertEqual(within(banks, books, 30, []), [])

    def test_all_marks_of_a_match_lie_in_the_group(self):
        banks = [(5, 6)]
        books = [(5, 1), (5, 2), (5, 3), (5, 4)]
        self.assertEqual(within(banks, books, 0, bank(0) + book(0, 1, 2)), [((0,), (0, 1, 2))])
        self.assertEqual(within(banks, books, 0, bank(0) + book(0, 1, 3)), [((0,), (1, 3))])
        self.assertEqual(within(banks, books, 0, bank(0) + book(0, 2, 3)), [])
        self.assertEqual(within(banks, books, 0, book(0, 1, 2, 3)), [])

    def test_many_groups_of_up_to_eight(self):
        row = numbers(7)
        found = set()
        for _ in range(250):
            entries = [[], []]
            for _ in range(next(row) % 9):
                entries[next(row) % 2].append((next(row) % 5, (1, 2, 3, -1, 4, 5)[next(row) % 6]))
            banks, books = entries
            span = next(row) % 5
            group = in_order(banks, books)
            for match in self.check(banks, books, span, group):
                found.add((len(match[0]), len(match[1])))
            self.check(banks, books, span, group[next(row) % 4:])
        self.assertEqual(found, {(1, 1), (1, 2), (1, 3), (2, 1), (3, 1)})

    def test_a_group_of_more_than_eight(self):
        banks = [(5 + place % 3, 1 + place % 4) for place in range(7)]
        books = [(7 - place % 3, 1 + place % 5) for place in range(7)]
        told = self.check(banks, books, 1, in_order(banks, books))
        self.assertGreater(len(told), 20)

    def test_all_that_fits_is_there_once_and_in_order(self):
        banks = [(5, 1), (6, 2), (5, 3), (6, 1)]
        books = [(6, 1), (5, 2), (6, 3), (5, 4)]
        told = within(banks, books, 1, in_order(banks, books))
        places = [some for many in range(1, 4) for some in itertools.combinations(range(4), many)]
        every = [match for match in itertools.product(places, places) if fits_by_words(banks, books, 1, match)]
        self.assertEqual(sorted(told), sorted(every))
        self.assertEqual(told, in_match_order(every))

    def test_it_is_a_list_of_pairs_of_tuples(self):
        banks, books = [(5, 3), (5, 2)], [(5, 1), (5, 2), (5, 5)]
        told = within(banks, books, 1, in_order(banks, books))
        self.assertEqual(len(told), 3)
        for match in told:
            self.assertIs(type(match), tuple)
            self.assertEqual([type(places) for places in match], [tuple, tuple])
            for place in match[0] + match[1]:
                self.assertIs(type(place), int)

    def test_the_lists_and_the_group_stay_as_they_were(self):
        banks = [(9, 30), (3, -2), (8, 10)]
        books = [(8, 10), (9, 20), (100, 5)]
        group = bank(2) + book(0) + bank(0) + book(1)
        before = copy.deepcopy((banks, books, group))
        self.assertEqual(within(banks, books, 3, group), [((2,), (0,)), ((0,), (0, 1))])
        self.assertEqual((banks, books, group), before)

    def test_the_list_told_is_a_new_one_each_time(self):
        banks, books = [(5, 3)], [(5, 3)]
        for group, expected in ((bank(0) + book(0), [((0,), (0,))]), (bank(0), []), ([], [])):
            first = within(banks, books, 1, group)
            second = within(banks, books, 1, group)
            self.assertIsNot(first, second)
            first.append("more")
            self.assertEqual(second, expected)
            second.clear()
            self.assertEqual(within(banks, books, 1, group), expected)

    def test_the_list_told_stays_as_it_is_when_the_entries_change(self):
        banks, books, group = [(5, 3)], [(5, 3)], bank(0) + book(0)
        told = within(banks, books, 1, group)
        banks[0] = (5, 4)
        books.clear()
        group.clear()
        self.assertEqual(told, [((0,), (0,))])


if __name__ == "__main__":
    unittest.main()
