"""Tests of points 6 and 7: tickoff.picking.table."""

import copy
import inspect
import unittest

from marks import TEN, bank, book, in_match_order, least_left, left_without, some_groups
from tickoff import picking
from tickoff.picking import table


def rests_by_words(rest, matches, found):
    """Point 7: the rest itself, and whatever comes by going on."""
    found.add(rest)
    if rest:
        rests_by_words(rest[1:], matches, found)
        for match in matches:
            left = left_without(rest, match)
            if left is not None and rest[0] in bank(*match[0]) + book(*match[1]):
                rests_by_words(left, matches, found)
    return found


class TableTest(unittest.TestCase):
    def check(self, group, matches):
        """Just the rests of point 7, each with the least of point 6."""
        self.assertEqual(matches, in_match_order(matches))
        told = table(group, matches)
        rests = rests_by_words(tuple(group), matches, set())
        self.assertEqual(set(told), rests, (group, matches))
        for rest in rests:
            self.assertEqual(told[rest], least_left(rest, matches), (group, matches, rest))
        return told

    def test_the_interface(self):
        self.assertEqual(table.__module__, "tickoff.picking")
        self.assertTrue(inspect.isfunction(picking.table))
        self.assertEqual(list(inspect.signature(table).parameters), ["group", "matches"])
        self.assertEqual(table(matches=[], group=bank(0)), {tuple(bank(0)): 1, (): 0})

    def test_an_empty_group(self):
        told = table([], [])
        self.assertIs(type(told), dict)
        self.assertEqual(told, {(): 0})

    def test_a_group_without_matches(self):
        group = bank(0) + book(0) + bank(1)
        expected = {
            tuple(bank(0) + book(0) + bank(1)): 3,
            tuple(book(0) + bank(1)): 2,
            tuple(bank(1)): 1,
            (): 0,
        }
        self.assertEqual(table(group, []), expected)

    def test_one_match_that_is_the_whole_group(self):
        expected = {tuple(bank(0) + book(0)): 0, tuple(book(0)): 1, (): 0}
        self.assertEqual(table(bank(0) + book(0), [((0,), (0,))]), expected)

    def test_a_match_without_the_first_mark(self):
        group = bank(0) + bank(1) + book(0)
        expected = {tuple(group): 1, tuple(bank(1) + book(0)): 0, tuple(book(0)): 1, (): 0}
        self.assertEqual(table(group, [((1,), (0,))]), expected)

    def test_a_rest_with_a_gap(self):
        group = bank(0, 1) + book(0)
        expected = {
            tuple(bank(0, 1) + book(0)): 1,
            tuple(bank(1) + book(0)): 2,
            tuple(bank(1)): 1,
            tuple(book(0)): 1,
            (): 0,
        }
        self.assertEqual(table(group, [((0,), (0,))]), expected)

    def test_matches_that_share_marks(self):
        group = bank(0) + book(0) + bank(1) + book(1)
        matches = [((0,), (0,)), ((1,), (0,)), ((1,), (1,))]
        expected = {
            tuple(group): 0,
            tuple(book(0) + bank(1) + book(1)): 1,
            tuple(bank(1) + book(1)): 0,
            tuple(book(1)): 1,
            (): 0,
        }
        self.assertEqual(table(group, matches), expected)

    def test_taking_the_first_match_is_not_the_least(self):
        group = bank(0) + book(0) + book(1) + bank(1)
        matches = [((0,), (0,)), ((0,), (1,)), ((1,), (0,))]
        told = self.check(group, matches)
        self.assertEqual(told[tuple(group)], 0)
        self.assertEqual(told[tuple(book(1) + bank(1))], 2)
        self.assertEqual(told[tuple(book(0) + bank(1))], 0)

    def test_leaving_the_first_mark_is_the_least(self):
        group = bank(0) + book(0, 1) + bank(1)
        matches = [((0,), (0,)), ((1,), (0, 1))]
        told = self.check(group, matches)
        self.assertEqual(told[tuple(group)], 1)
        self.assertEqual(told[tuple(book(0, 1) + bank(1))], 0)
        self.assertEqual(told[tuple(book(1) + bank(1))], 2)

    def test_no_rests_but_those_that_come_by_going_on(self):
        group = bank(0, 1) + book(0, 1)
        told = table(group, [((1,), (0,))])
        expected = {
            tuple(bank(0, 1) + book(0, 1)): 2,
            tuple(bank(1) + book(0, 1)): 1,
            tuple(book(0, 1)): 2,
            tuple(book(1)): 1,
            (): 0,
        }
        # The match's first mark is never that of the whole group, so it is
        # never taken out of it: what then would be left is no rest here.
        self.assertNotIn(tuple(bank(0) + book(1)), told)
        self.assertEqual(told, expected)

    def test_a_match_with_a_mark_that_is_gone_is_not_taken_out(self):
        group = bank(0, 1) + book(0, 1)
        matches = [((0,), (0,)), ((1,), (1,)), ((1,), (0, 1))]
        told = self.check(group, matches)
        self.assertEqual(told[tuple(bank(1) + book(1))], 0)
        self.assertEqual(told[tuple(bank(1) + book(0, 1))], 0)
        self.assertEqual(told[tuple(group)], 0)
        told = self.check(group, [((0,), (0,)), ((1,), (0, 1))])
        self.assertEqual(told[tuple(bank(1) + book(1))], 2)
        self.assertEqual(told[tuple(group)], 1)

    def test_matches_of_three_and_four_marks(self):
        group = bank(0) + book(0, 1, 2) + bank(1, 2, 3) + book(3)
        matches = [((0,), (0, 1)), ((0,), (0, 1, 2)), ((1, 2, 3), (2,)), ((1, 2, 3), (3,))]
        told = self.check(group, matches)
        self.assertEqual(told[tuple(group)], 0)
        self.assertEqual(told[tuple(group[1:])], 3)

    def test_marks_of_one_list_stand_by_day_not_by_place(self):
        group = bank(2) + book(1) + bank(0) + book(0) + bank(1)
        matches = [((0,), (0,)), ((2,), (1,)), ((0, 1, 2), (1,))]
        told = self.check(group, matches)
        self.assertEqual(told[tuple(group)], 1)
        self.assertEqual(told[tuple(book(0) + bank(1))], 2)

    def test_many_groups_of_up_to_eight(self):
        rests = 0
        for group, matches in some_groups(11, 120):
            rests = max(rests, len(self.check(group, matches)))
            self.check(group, matches[len(group) % 3:][::2])
        self.assertGreater(rests, 25)

    def test_a_group_in_which_all_fits(self):
        group = bank(0, 1, 2, 3) + book(0, 1, 2, 3)
        matches = [((ours,), (theirs,)) for ours in range(4) for theirs in range(4)]
        told = self.check(group, matches)
        self.assertEqual(told[tuple(group)], 0)
        self.assertEqual(told[tuple(group[1:])], 1)

    def test_it_is_a_dict_from_tuples_of_marks_to_whole_numbers(self):
        group = bank(0) + book(0) + bank(1)
        told = table(group, [((0,), (0,))])
        self.assertIs(type(told), dict)
        for rest, least in told.items():
            self.assertIs(type(rest), tuple)
            self.assertIs(type(least), int)
            for mark in rest:
                self.assertIs(type(mark), tuple)
                self.assertIn(mark, group)
            self.assertEqual(list(rest), [mark for mark in group if mark in rest])

    def test_group_and_matches_stay_as_they_were(self):
        group = bank(0) + book(0, 1) + bank(1)
        matches = [((0,), (0,)), ((0,), (1,)), ((1,), (0,)), ((1,), (0, 1))]
        before = copy.deepcopy((group, matches))
        table(group, matches)
        self.assertEqual((group, matches), before)

    def test_the_dict_told_is_a_new_one_each_time(self):
        group, matches = bank(0) + book(0), [((0,), (0,))]
        first = table(group, matches)
        expected = dict(first)
        second = table(group, matches)
        self.assertIsNot(first, second)
        first.clear()
        self.assertEqual(second, expected)
        second[()] = 7
        self.assertEqual(table(group, matches), expected)

    def test_a_group_of_a_few_more_than_eight(self):
        self.check(*TEN)


if __name__ == "__main__":
    unittest.main()
