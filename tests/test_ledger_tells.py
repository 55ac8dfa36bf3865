"""Tests of points 1, 9 and 13: what a ledger tells, and that it stays what it was."""

import copy
import unittest

from marks import bank, book, in_match_order, put_all, told_by
from tickoff.ledger import Ledger


def some_ledger():
    """A ledger of three groups, with matches of each kind and barred ones."""
    ledger = put_all(
        Ledger(2),
        ("book", 50, 1), ("book", 50, 2), ("book", 51, 3), ("bank", 52, 6),
        ("bank", 10, 4), ("bank", 10, 5), ("book", 11, 9), ("book", 11, -7), ("bank", 12, -7),
        ("bank", 90, 8), ("book", 90, 8), ("book", 91, 8),
    )
    ledger.take_back(((4,), (5,)))
    return ledger


class TellsTest(unittest.TestCase):
    def test_entry(self):
        ledger = some_ledger()
        self.assertEqual([ledger.entry("bank", place) for place in range(5)],
                         [(52, 6), (10, 4), (10, 5), (12, -7), (90, 8)])
        self.assertEqual([ledger.entry("book", place) for place in range(7)],
                         [(50, 1), (50, 2), (51, 3), (11, 9), (11, -7), (90, 8), (91, 8)])
        for side, places in (("bank", 5), ("book", 7)):
            for place in range(places):
                self.assertIs(type(ledger.entry(side, place)), tuple)

    def test_entries_stand_as_they_came(self):
        ledger = Ledger(1)
        for place, day in enumerate((30, 10, 20, 10)):
            ledger.put("bank", day, -place - 1)
            ledger.put("book", 40 - day, place + 1)
        self.assertEqual([ledger.entry("bank", place) for place in range(4)],
                         [(30, -1), (10, -2), (20, -3), (10, -4)])
        self.assertEqual([ledger.entry("book", place) for place in range(4)],
                         [(10, 1), (30, 2), (20, 3), (30, 4)])

    def test_matches_stand_in_order(self):
        self.assertEqual(some_ledger().matches(), [((3,), (4,)), ((1, 2), (3,)), ((0,), (0, 1, 2))])
        rows = [("bank", day, 1) for day in (90, 50, 70, 10)] + [("book", day, 1) for day in (50, 10, 90, 70)]
        self.assertEqual(put_all(Ledger(2), *rows).matches(), [((0,), (2,)), ((1,), (0,)), ((2,), (3,)), ((3,), (1,))])

    def test_matches_stand_in_order_of_all_not_group_by_group(self):
        ledger = Ledger(0)
        days = [37 * step % 20 for step in range(20)]
        for day in days:
            put_all(ledger, ("bank", day, 6), *[("book", day, 6 // (1 + day % 3))] * (1 + day % 3))
        told = ledger.matches()
        self.assertEqual(len(told), 20)
        self.assertEqual(told, in_match_order(told))
        self.assertEqual([len(match[1]) for match in told], [1] * 7 + [2] * 7 + [3] * 6)
        self.assertNotEqual(told, sorted(told))

    def test_matches_are_pairs_of_tuples_of_whole_numbers(self):
        ledger = some_ledger()
        for told in (ledger.matches(), ledger.barred()):
            self.assertIs(type(told), list)
            for match in told:
                self.assertIs(type(match), tuple)
                self.assertEqual([type(places) for places in match], [tuple, tuple])
                for place in match[0] + match[1]:
                    self.assertIs(type(place), int)

    def test_barred_stand_as_they_were_taken_back(self):
        ledger = some_ledger()
        self.assertEqual(ledger.barred(), [((4,), (5,))])
        ledger.take_back(((0,), (0, 1, 2)))
        ledger.take_back(((1, 2), (3,)))
        ledger.take_back(((3,), (4,)))
        self.assertEqual(ledger.barred(), [((4,), (5,)), ((0,), (0, 1, 2)), ((1, 2), (3,)), ((3,), (4,))])

    def test_left(self):
        ledger = some_ledger()
        self.assertEqual(ledger.left("bank"), [4])
        self.assertEqual(ledger.left("book"), [5, 6])
        ledger.take_back(((1, 2), (3,)))
        self.assertEqual(ledger.left("bank"), [1, 2, 4])
        self.assertEqual(ledger.left("book"), [3, 5, 6])

    def test_left_rises_by_place_not_by_day(self):
        ledger = put_all(Ledger(0), *[("bank", day, 5) for day in (80, 20, 60, 40, 0)], ("book", 60, 5))
        self.assertEqual(ledger.left("bank"), [0, 1, 3, 4])
        self.assertEqual(ledger.left("book"), [])

    def test_the_place_of_one_list_says_nothing_of_the_other(self):
        ledger = put_all(Ledger(0), ("bank", 5, 1), ("bank", 5, 2), ("book", 5, 2), ("book", 5, 4))
        self.assertEqual(ledger.matches(), [((1,), (0,))])
        self.assertEqual(ledger.left("bank"), [0])
        self.assertEqual(ledger.left("book"), [1])

    def test_group_of(self):
        ledger = some_ledger()
        for group in (
                bank(1, 2) + book(3, 4) + bank(3), book(0, 1, 2) + bank(0), bank(4) + book(5, 6)):
            for mark in group:
                self.assertEqual(ledger.group_of(*mark), group)
                self.assertIs(type(ledger.group_of(*mark)), list)

    def test_group_of_follows_the_entries(self):
        ledger = put_all(Ledger(2), ("bank", 10, 1))
        self.assertEqual(ledger.group_of("bank", 0), bank(0))
        ledger.put("book", 13, 1)
        self.assertEqual(ledger.group_of("bank", 0), bank(0))
        self.assertEqual(ledger.group_of("book", 0), book(0))
        ledger.put("book", 11, 1)
        self.assertEqual(ledger.group_of("bank", 0), bank(0) + book(1, 0))
        self.assertEqual(ledger.group_of("book", 0), bank(0) + book(1, 0))
        ledger.put("bank", 11, 1)
        self.assertEqual(ledger.group_of("book", 1), bank(0, 1) + book(1, 0))

    def test_asking_changes_nothing(self):
        ledger = some_ledger()
        first = told_by(ledger)
        self.assertEqual(told_by(ledger), first)
        self.assertEqual(told_by(some_ledger()), first)


class StaysTest(unittest.TestCase):
    def test_what_was_told_stays_what_it_was(self):
        ledger = Ledger(2)
        steps = [lambda row=row: ledger.put(*row) for row in (
            ("bank", 10, 5), ("book", 10, 5), ("book", 11, 5), ("bank", 14, 7), ("book", 14, 7), ("bank", 12, -5))]
        steps += [lambda: ledger.take_back(((0,), (0,))), lambda: ledger.put("book", 30, 5), ledger.again]
        steps += [lambda: ledger.take_back(((0,), (1,))), lambda: ledger.put("bank", 9, 5), ledger.again]
        kept = []
        for step in steps:
            told = told_by(ledger)
            kept.append((told, copy.deepcopy(told)))
            step()
            for old, as_it_was in kept:
                self.assertEqual(old, as_it_was)
        self.assertEqual(ledger.barred(), [((0,), (0,)), ((0,), (1,))])
        self.assertEqual(len({repr(told) for told, _ in kept}), len(kept))

    def test_changing_what_was_told_changes_nothing_in_the_ledger(self):
        ledger = some_ledger()
        before = told_by(ledger)
        for ask in (
                ledger.matches, ledger.barred, lambda: ledger.left("bank"), lambda: ledger.left("book"),
                lambda: ledger.group_of("bank", 1), lambda: ledger.group_of("bank", 3),
                lambda: ledger.group_of("book", 6)):
            expected = ask()
            changed = ask()
            self.assertIsNot(changed, expected)
            changed.append(changed[0])
            self.assertEqual(ask(), expected)
            changed.reverse()
            self.assertEqual(ask(), expected)
            changed.clear()
            self.assertEqual(ask(), expected)
            self.assertEqual(told_by(ledger), before)

    def test_changing_what_was_told_changes_nothing_of_what_is_done_later(self):
        ledger, other = some_ledger(), some_ledger()
        for told in (
                ledger.matches(), ledger.barred(), ledger.left("bank"), ledger.left("book"),
                ledger.group_of("bank", 4), ledger.group_of("book", 0), ledger.group_of("book", 3)):
            told.clear()
        for each in (ledger, other):
            put_all(each, ("bank", 91, 16), ("book", 49, 6))
            each.take_back(((1, 2), (3,)))
        self.assertEqual(told_by(ledger), told_by(other))
        ledger.again()
        other.again()
        self.assertEqual(told_by(ledger), told_by(other))

    def test_empty_lists_that_are_told_are_new_ones_too(self):
        ledger = Ledger(2)
        for ask in (ledger.matches, ledger.barred, lambda: ledger.left("bank"), lambda: ledger.left("book")):
            ask().append("more")
            self.assertEqual(ask(), [])
        ledger.put("bank", 5, 5)
        self.assertEqual(ledger.matches(), [])
        self.assertEqual(ledger.left("bank"), [0])


if __name__ == "__main__":
    unittest.main()
