"""Tests of points 8 to 13 over longer rows of put, take_back and again."""

import itertools
import unittest

from marks import (
    bank, book, fits_by_words, in_match_order, least_left, numbers,
    picked_by_words, put_all, told_by, within_by_words)
from tickoff.entries import groups
from tickoff.errors import NoMatch, TooMany
from tickoff.ledger import Ledger

CENTS = (1, 2, 3, 4, 5, -1, -2, 1, 2, 3)


class Model:
    """Points 9 to 12 written out, each least found by brute force."""

    def __init__(self, span):
        self.span = span
        self.entries = {"bank": [], "book": []}
        self.found = []
        self.gone = []
        # A mark of each group that has lost a match since it was last picked.
        self.stale = []

    def groups(self):
        return groups(self.entries["bank"], self.entries["book"], self.span)

    def fitting(self, group):
        every = within_by_words(self.entries["bank"], self.entries["book"], self.span, group)
        return [match for match in every if match not in self.gone]

    def pick(self, group):
        self.found = [match for match in self.found if ("bank", match[0][0]) not in group]
        self.found = in_match_order(self.found + picked_by_words(group, self.fitting(group)))
        self.stale = [mark for mark in self.stale if mark not in group]

    def put(self, side, day, cents):
        self.entries[side].append((day, cents))
        place = len(self.entries[side]) - 1
        group = [group for group in self.groups() if (side, place) in group][0]
        if len(group) > 8:
            self.entries[side].pop()
            return None
        self.pick(group)
        return place

    def take_back(self, match):
        self.found.remove(match)
        self.gone.append(match)
        self.stale.append(("bank", match[0][0]))

    def again(self):
        for group in self.groups():
            self.pick(group)

    def left(self, side):
        at = ("bank", "book").index(side)
        taken = [place for match in self.found for place in match[at]]
        return [place for place in range(len(self.entries[side])) if place not in taken]

    def told(self):
        return {
            "entries": [((side, place), entry) for side in ("bank", "book")
                        for place, entry in enumerate(self.entries[side])],
            "groups": sorted((mark, group) for group in self.groups() for mark in group),
            "left": [self.left("bank"), self.left("book")],
            "matches": self.found,
            "barred": self.gone,
        }


class RowsTest(unittest.TestCase):
    def put(self, ledger, model, row):
        place = model.put(*row)
        if place is None:
            with self.assertRaises(TooMany):
                ledger.put(*row)
        else:
            self.assertEqual(ledger.put(*row), place)
        return place is not None

    def step(self, ledger, model, days, row):
        """One step of a row, alike in both, and a word for what it was."""
        what = next(row) % 10
        if what < 3 and model.found:
            match = model.found[next(row) % len(model.found)]
            ledger.take_back(match)
            model.take_back(match)
            with self.assertRaises(NoMatch):
                ledger.take_back(match)
            return "take_back"
        if what == 3:
            ledger.again()
            model.again()
            return "again"
        entry = (("bank", "book")[next(row) % 2], next(row) % days, CENTS[next(row) % len(CENTS)])
        return "put" if self.put(ledger, model, entry) else "refused"

    def check_points(self, ledger, model):
        """Points 12 and 13, of what the ledger itself tells."""
        banks, books = model.entries["bank"], model.entries["book"]
        matches, barred = ledger.matches(), ledger.barred()
        taken = [mark for match in matches for mark in bank(*match[0]) + book(*match[1])]
        self.assertEqual(len(taken), len(set(taken)))
        for match in matches:
            self.assertTrue(fits_by_words(banks, books, model.span, match))
            self.assertNotIn(match, barred)
        for group in model.groups():
            self.assertLessEqual(len(group), 8)
            if not any(mark in model.stale for mark in group):
                left = [mark for mark in group if mark not in taken]
                self.assertEqual(len(left), least_left(tuple(group), model.fitting(group)))

    def check_row(self, span, days, steps, start):
        ledger, model = Ledger(span), Model(span)
        row = numbers(start)
        done = {}
        for _ in range(steps):
            what = self.step(ledger, model, days, row)
            done[what] = done.get(what, 0) + 1
            self.assertEqual(told_by(ledger), model.told(), (span, days, start, done))
            self.check_points(ledger, model)
        ledger.again()
        model.again()
        self.assertEqual(told_by(ledger), model.told(), (span, days, start, done))
        return done

    def test_rows_of_all_kinds_of_steps(self):
        done = {}
        for start in range(5):
            for span, days in ((0, 6), (0, 12), (1, 24), (2, 40), (5, 60), (30, 300), (30, 30)):
                for what, many in self.check_row(span, days, 45, 1000 * start + span + days).items():
                    done[what] = done.get(what, 0) + many
        for what in ("put", "refused", "take_back", "again"):
            self.assertGreater(done[what], 50, done)

    def test_days_at_the_end_of_all_days(self):
        ledger, model = Ledger(2), Model(2)
        row = numbers(77)
        for _ in range(40):
            entry = (("bank", "book")[next(row) % 2], (0, 1, 2, 9997, 9998, 9999)[next(row) % 6], 1 + next(row) % 3)
            self.put(ledger, model, entry)
            self.assertEqual(told_by(ledger), model.told())

    def test_a_group_whose_matches_are_all_taken_back_one_by_one(self):
        rows = [("bank", 5 + place, 1) for place in range(3)] + [("book", 5 + place, 1) for place in range(3)]
        ledger, model = put_all(Ledger(2), *rows), put_all(Model(2), *rows)
        for many in range(9):
            match = model.found[-1]
            ledger.take_back(match)
            model.take_back(match)
            self.assertEqual(told_by(ledger), model.told())
            ledger.again()
            model.again()
            self.assertEqual(told_by(ledger), model.told())
            self.check_points(ledger, model)
        self.assertEqual(ledger.matches(), [])
        self.assertEqual(len(ledger.barred()), 9)

    def test_two_ledgers_beside_one_another(self):
        ledgers = Ledger(1), Ledger(3)
        models = Model(1), Model(3)
        rows = numbers(3), numbers(4)
        for step in range(80):
            at = (step // 3) % 2
            self.step(ledgers[at], models[at], 20, rows[at])
            for ledger, model in zip(ledgers, models):
                self.assertEqual(told_by(ledger), model.told())
        self.assertEqual(told_by(Ledger(1)), told_by(Ledger(3)))

    def test_two_ledgers_of_one_span_have_nothing_of_one_another(self):
        first, second = Ledger(0), Ledger(0)
        put_all(first, ("bank", 5, 5), ("book", 5, 5))
        self.assertEqual(told_by(second), told_by(Ledger(0)))
        self.assertEqual(second.put("bank", 5, 5), 0)
        first.take_back(((0,), (0,)))
        self.assertEqual(second.put("book", 5, 5), 0)
        self.assertEqual(second.matches(), [((0,), (0,))])
        self.assertEqual(second.barred(), [])
        second.again()
        self.assertEqual(second.matches(), [((0,), (0,))])
        self.assertEqual(first.matches(), [])


class OtherOrderTest(unittest.TestCase):
    def left(self, span, rows):
        ledger = put_all(Ledger(span), *rows)
        return len(ledger.left("bank") + ledger.left("book"))

    def check(self, span, rows, orders):
        """As many are left in any order, and as few as can be."""
        banks = [row[1:] for row in rows if row[0] == "bank"]
        books = [row[1:] for row in rows if row[0] == "book"]
        least = 0
        for group in groups(banks, books, span):
            least += least_left(tuple(group), within_by_words(banks, books, span, group))
        for order in orders:
            self.assertEqual(self.left(span, order), least, (span, order))

    def test_all_orders_of_six_entries(self):
        for span, rows in (
                (2, [("bank", 5, 10), ("book", 5, 10), ("book", 6, 4),
                     ("book", 7, 6), ("bank", 8, 10), ("bank", 9, 4)]),
                (1, [("bank", 5, 3), ("book", 6, 1), ("book", 6, 2),
                     ("bank", 7, 3), ("bank", 7, 1), ("book", 8, 3)]),
                (0, [("bank", 5, 3), ("bank", 5, -2), ("book", 5, 1),
                     ("book", 9, 3), ("bank", 9, 2), ("bank", 9, 1)])):
            self.check(span, rows, itertools.permutations(rows))

    def test_other_orders_of_longer_rows(self):
        row = numbers(21)
        for span in (0, 1, 2, 4):
            rows = []
            for day in range(0, 60, 2 * span + 3):
                for _ in range(1 + next(row) % 8):
                    side = ("bank", "book")[next(row) % 2]
                    rows.append((side, day + next(row) % (span + 1), CENTS[next(row) % len(CENTS)]))
            orders = [rows, rows[::-1], sorted(rows), sorted(rows, key=lambda entry: entry[::-1])]
            for many in (3, 7, 11):
                orders.append([entry for at in range(many) for entry in rows[at::many]])
            self.check(span, rows, orders)


if __name__ == "__main__":
    unittest.main()
