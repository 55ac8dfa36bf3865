"""Tests of points 8, 10, 11 and 12: the ledger's take_back and again."""

import unittest

from marks import put_all, told_by
from tickoff.errors import NoMatch, TickError
from tickoff.ledger import Ledger


class TakeBackTest(unittest.TestCase):
    def check_refused(self, ledger, match):
        before = told_by(ledger)
        with self.assertRaises(NoMatch, msg=match):
            ledger.take_back(match)
        self.assertEqual(told_by(ledger), before, match)

    def two_groups(self):
        ledger = put_all(Ledger(1), ("bank", 5, 5), ("book", 5, 5), ("book", 6, 5), ("bank", 9, 7), ("book", 9, 3))
        put_all(ledger, ("book", 9, 4), ("bank", 5, 2), ("book", 5, 2))
        self.assertEqual(ledger.matches(), [((0,), (0,)), ((2,), (4,)), ((1,), (2, 3))])
        return ledger

    def test_it_tells_none(self):
        ledger = self.two_groups()
        self.assertIsNone(ledger.take_back(((1,), (2, 3))))
        self.assertIsNone(ledger.take_back(((0,), (0,))))

    def test_the_match_goes_and_is_the_last_of_the_barred(self):
        ledger = self.two_groups()
        ledger.take_back(((1,), (2, 3)))
        self.assertEqual(ledger.matches(), [((0,), (0,)), ((2,), (4,))])
        self.assertEqual(ledger.barred(), [((1,), (2, 3))])
        ledger.take_back(((0,), (0,)))
        self.assertEqual(ledger.matches(), [((2,), (4,))])
        self.assertEqual(ledger.barred(), [((1,), (2, 3)), ((0,), (0,))])
        ledger.take_back(((2,), (4,)))
        self.assertEqual(ledger.matches(), [])
        self.assertEqual(ledger.barred(), [((1,), (2, 3)), ((0,), (0,)), ((2,), (4,))])

    def test_nothing_is_picked(self):
        ledger = self.two_groups()
        before = told_by(ledger)
        ledger.take_back(((0,), (0,)))
        after = told_by(ledger)
        # Entry 0 of the bank's would fit entry 1 of the book's.
        self.assertEqual(after["left"], [[0], [0, 1]])
        self.assertEqual(after["entries"], before["entries"])
        self.assertEqual(after["groups"], before["groups"])

    def test_what_is_none_of_its_matches(self):
        ledger = self.two_groups()
        for match in (
                ((0,), (1,)), ((0,), (4,)), ((2,), (0,)), ((1,), (2,)), ((1,), (3, 2)), ((1,), (2, 3, 4)),
                ((0, 2), (0,)), ((0, 0), (0,)), ((0,), (0, 0)), ((0,), ()), ((), (0,)), ((), ()),
                ((-3,), (0,)), ((0,), (-5,)), ((9,), (0,)), ((0,), (9,)), ((10 ** 30,), (10 ** 30,)),
                ((2, 3), (1,)), ((4,), (2,)), ((0, 1, 2), (0, 1, 2, 3, 4))):
            self.check_refused(ledger, match)

    def test_of_a_ledger_without_matches(self):
        self.check_refused(Ledger(0), ((0,), (0,)))
        self.check_refused(put_all(Ledger(0), ("bank", 5, 5), ("book", 6, 5)), ((0,), (0,)))

    def test_one_that_was_just_taken_back(self):
        ledger = self.two_groups()
        ledger.take_back(((0,), (0,)))
        self.check_refused(ledger, ((0,), (0,)))
        self.assertEqual(ledger.barred(), [((0,), (0,))])
        ledger.again()
        self.check_refused(ledger, ((0,), (0,)))

    def test_one_that_went_when_its_group_was_picked_anew(self):
        ledger = put_all(Ledger(0), ("bank", 5, 10), ("book", 5, 10), ("book", 5, 4), ("book", 5, 6))
        self.assertEqual(ledger.matches(), [((0,), (1, 2))])
        self.check_refused(ledger, ((0,), (0,)))
        ledger.take_back(((0,), (1, 2)))
        # It is no match again till it is picked, though it would fit.
        self.check_refused(ledger, ((0,), (0,)))
        ledger.again()
        ledger.take_back(((0,), (0,)))
        self.assertEqual(ledger.barred(), [((0,), (1, 2)), ((0,), (0,))])

    def test_the_refusal_is_a_tick_error(self):
        with self.assertRaises(TickError):
            Ledger(0).take_back(((0,), (0,)))


class AgainTest(unittest.TestCase):
    def test_it_tells_none(self):
        self.assertIsNone(Ledger(0).again())
        self.assertIsNone(put_all(Ledger(0), ("bank", 5, 5), ("book", 5, 5)).again())

    def test_of_an_empty_ledger_and_one_without_matches(self):
        ledger = Ledger(3)
        ledger.again()
        self.assertEqual(told_by(ledger), told_by(Ledger(3)))
        put_all(ledger, ("bank", 5, 5), ("book", 9, 5))
        before = told_by(ledger)
        ledger.again()
        self.assertEqual(told_by(ledger), before)

    def test_where_nothing_was_taken_back_all_stays(self):
        ledger = put_all(Ledger(1), *[(side, day, 5) for day in (9, 1, 5, 2) for side in ("bank", "book", "book")])
        before = told_by(ledger)
        self.assertEqual(len(before["matches"]), 4)
        ledger.again()
        self.assertEqual(told_by(ledger), before)

    def test_each_group_is_picked_anew(self):
        ledger = Ledger(1)
        for day in (5, 50, 30):
            put_all(ledger, ("bank", day, 5), ("book", day, 5), ("book", day, 5))
        for place in range(3):
            ledger.take_back(((place,), (2 * place,)))
        self.assertEqual(ledger.matches(), [])
        ledger.again()
        self.assertEqual(ledger.matches(), [((place,), (2 * place + 1,)) for place in range(3)])

    def test_a_whole_group_is_picked_anew_not_just_what_is_left(self):
        ledger = put_all(Ledger(1), ("bank", 5, 5), ("bank", 5, 5), ("book", 5, 5), ("book", 6, 5))
        self.assertEqual(ledger.matches(), [((0,), (0,)), ((1,), (1,))])
        ledger.take_back(((1,), (1,)))
        self.assertEqual(ledger.matches(), [((0,), (0,))])
        ledger.again()
        self.assertEqual(ledger.matches(), [((0,), (1,)), ((1,), (0,))])

    def test_twice_in_a_row_tells_the_same(self):
        ledger = put_all(Ledger(2), *[("bank", 5 + place, 1 + place % 2) for place in range(4)])
        put_all(ledger, *[("book", 8 - place, 1 + place // 2) for place in range(4)])
        for _ in range(3):
            ledger.take_back(ledger.matches()[0])
            ledger.again()
            first = told_by(ledger)
            ledger.again()
            self.assertEqual(told_by(ledger), first)

    def test_barred_matches_stay_barred(self):
        ledger = put_all(Ledger(1), ("bank", 5, 5), ("book", 5, 5), ("book", 6, 5))
        ledger.take_back(((0,), (0,)))
        ledger.again()
        self.assertEqual(ledger.matches(), [((0,), (1,))])
        self.assertEqual(ledger.barred(), [((0,), (0,))])
        ledger.take_back(((0,), (1,)))
        for _ in range(2):
            ledger.again()
            self.assertEqual(ledger.matches(), [])
            self.assertEqual(ledger.barred(), [((0,), (0,)), ((0,), (1,))])

    def test_entries_groups_and_barred_stay(self):
        ledger = put_all(Ledger(1), ("bank", 5, 5), ("book", 5, 5), ("book", 6, 5), ("bank", 9, 1), ("book", 9, 1))
        ledger.take_back(((0,), (0,)))
        before = told_by(ledger)
        ledger.again()
        after = told_by(ledger)
        for name in ("entries", "groups", "barred"):
            self.assertEqual(after[name], before[name])
        self.assertEqual(after["matches"], [((0,), (1,)), ((1,), (2,))])


if __name__ == "__main__":
    unittest.main()
