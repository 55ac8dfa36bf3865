"""Tests of points 6 and 8: tickoff.picking.picked."""

import copy
import inspect
import unittest

from marks import TEN, bank, book, in_match_order, least_left, picked_by_words, some_groups
from tickoff import picking
from tickoff.picking import picked


class PickedTest(unittest.TestCase):
    def check(self, group, matches):
        """What point 8 picks, and that no marks are left that need not be."""
        self.assertEqual(matches, in_match_order(matches))
        told = picked(group, matches)
        self.assertEqual(told, picked_by_words(group, matches), (group, matches))
        taken = [mark for match in told for mark in bank(*match[0]) + book(*match[1])]
        self.assertEqual(len(taken), len(set(taken)))
        self.assertEqual(len(group) - len(taken), least_left(tuple(group), matches))
        return told

    def test_the_interface(self):
        self.assertEqual(picked.__module__, "tickoff.picking")
        self.assertTrue(inspect.isfunction(picking.picked))
        self.assertEqual(list(inspect.signature(picked).parameters), ["group", "matches"])
        self.assertEqual(picked(matches=[((0,), (0,))], group=bank(0) + book(0)), [((0,), (0,))])

    def test_none_to_pick(self):
        for group in ([], bank(0), bank(0) + book(0), bank(0, 1, 2, 3) + book(0, 1, 2, 3)):
            told = picked(group, [])
            self.assertIs(type(told), list)
            self.assertEqual(told, [])

    def test_one_match(self):
        for match in (((0,), (0,)), ((1,), (0,)), ((1,), (1,)), ((0, 1), (1,)), ((0,), (0, 1))):
            for group in (bank(0, 1) + book(0, 1), book(0) + bank(0) + book(1) + bank(1)):
                self.assertEqual(picked(group, [match]), [match])

    def test_matches_that_share_no_mark(self):
        group = bank(0) + book(0) + bank(1) + book(1, 2)
        matches = [((0,), (0,)), ((1,), (1, 2))]
        self.assertEqual(picked(group, matches), matches)

    def test_matches_that_share_marks(self):
        group = bank(0) + book(0, 1)
        self.assertEqual(self.check(group, [((0,), (0,)), ((0,), (1,))]), [((0,), (0,))])
        group = bank(0, 1) + book(0)
        self.assertEqual(self.check(group, [((0,), (0,)), ((1,), (0,))]), [((0,), (0,))])
        group = bank(0, 1) + book(0, 1)
        every = [((ours,), (theirs,)) for ours in (0, 1) for theirs in (0, 1)]
        self.assertEqual(self.check(group, every), [((0,), (0,)), ((1,), (1,))])

    def test_taking_the_first_match_would_leave_more_than_need_be(self):
        group = bank(0) + book(0, 1) + bank(1)
        matches = [((0,), (0,)), ((0,), (1,)), ((1,), (0,))]
        self.assertEqual(self.check(group, matches), [((0,), (1,)), ((1,), (0,))])
        matches = [((0,), (0,)), ((0,), (0, 1))]
        self.assertEqual(self.check(bank(0) + book(0, 1), matches), [((0,), (0, 1))])

    def test_leaving_the_first_mark_though_a_match_has_it(self):
        group = bank(0) + book(0, 1) + bank(1)
        matches = [((0,), (0,)), ((1,), (0, 1))]
        self.assertEqual(self.check(group, matches), [((1,), (0, 1))])

    def test_a_match_goes_ahead_of_leaving_the_first_mark(self):
        # One mark is left either way.
        group = bank(0, 1) + book(0)
        self.assertEqual(self.check(group, [((0,), (0,)), ((1,), (0,))]), [((0,), (0,))])
        group = book(0) + bank(0) + book(1)
        self.assertEqual(self.check(group, [((0,), (0,)), ((0,), (1,))]), [((0,), (0,))])

    def test_of_several_ways_the_first_match_in_order_of_the_first_mark(self):
        # The first mark's second match is the first of all matches.
        group = book(1) + bank(0, 1) + book(0)
        matches = [((0,), (0,)), ((0,), (1,)), ((1,), (0,)), ((1,), (1,))]
        self.assertEqual(self.check(group, matches), [((0,), (1,)), ((1,), (0,))])
        group = bank(1, 0) + book(0, 1)
        self.assertEqual(self.check(group, matches), [((1,), (0,)), ((0,), (1,))])

    def test_of_several_ways_with_a_larger_match(self):
        # Two of three marks each tick off all, and so do one of four and one of two.
        group = bank(0, 1) + book(0, 1, 2, 3)
        matches = [((1,), (3,)), ((0,), (0, 1)), ((1,), (2, 3)), ((0,), (0, 1, 2))]
        self.assertEqual(self.check(group, matches), [((0,), (0, 1)), ((1,), (2, 3))])
        matches = [((0,), (0,)), ((1,), (1, 2)), ((0,), (1, 2, 3)), ((1,), (1, 2, 3))]
        self.assertEqual(self.check(group, matches), [((0,), (0,)), ((1,), (1, 2, 3))])

    def test_a_larger_match_is_picked_where_the_smaller_ones_leave_more(self):
        group = bank(0) + book(0, 1, 2)
        matches = [((0,), (0,)), ((0,), (0, 1)), ((0,), (1, 2)), ((0,), (0, 1, 2))]
        self.assertEqual(self.check(group, matches), [((0,), (0, 1, 2))])
        self.assertEqual(self.check(group, matches[:3]), [((0,), (0, 1))])
        self.assertEqual(self.check(group, matches[:1]), [((0,), (0,))])

    def test_they_are_told_as_they_are_picked(self):
        group = bank(1) + book(0, 1) + bank(0) + book(2)
        matches = [((0,), (2,)), ((1,), (0, 1))]
        self.assertEqual(self.check(group, matches), [((1,), (0, 1)), ((0,), (2,))])
        group = bank(2) + book(2) + bank(1) + book(1) + bank(0) + book(0)
        matches = [((place,), (place,)) for place in range(3)]
        self.assertEqual(self.check(group, matches), matches[::-1])

    def test_a_mark_left_between_others(self):
        group = bank(0, 1) + book(0) + bank(2) + book(1)
        matches = [((0,), (0,)), ((2,), (1,))]
        self.assertEqual(self.check(group, matches), matches)

    def test_groups_of_eight(self):
        group = bank(0, 1, 2, 3) + book(0, 1, 2, 3)
        every = [((ours,), (theirs,)) for ours in range(4) for theirs in range(4)]
        self.assertEqual(self.check(group, every), [((place,), (place,)) for place in range(4)])
        matches = [((0,), (0,)), ((0,), (1, 2, 3)), ((1, 2, 3), (0,))]
        self.assertEqual(self.check(group, matches), matches[1:])

    def test_many_groups_of_up_to_eight(self):
        most = 0
        unsorted = 0
        for group, matches in some_groups(5, 120):
            told = self.check(group, matches)
            most = max(most, len(told))
            unsorted += told != in_match_order(told)
            self.check(group, [match for match in matches if match not in told[1:]])
        self.assertGreater(most, 2)
        self.assertGreater(unsorted, 2)

    def test_group_and_matches_stay_as_they_were(self):
        group = bank(0) + book(0, 1) + bank(1)
        matches = [((0,), (0,)), ((0,), (1,)), ((1,), (0,)), ((1,), (0, 1))]
        before = copy.deepcopy((group, matches))
        picked(group, matches)
        self.assertEqual((group, matches), before)

    def test_the_list_told_is_a_new_one_each_time(self):
        for group, matches in ((bank(0) + book(0), [((0,), (0,))]), (bank(0), []), ([], [])):
            first = picked(group, matches)
            expected = list(first)
            second = picked(group, matches)
            self.assertIsNot(first, second)
            self.assertIsNot(first, matches)
            first.append("more")
            self.assertEqual(second, expected)
            second.clear()
            self.assertEqual(picked(group, matches), expected)

    def test_a_group_of_a_few_more_than_eight(self):
        self.check(*TEN)


if __name__ == "__main__":
    unittest.main()
