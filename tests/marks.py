"""Short words for marks and entries, and points 4 to 8 written out by brute force, for the tests."""

import itertools

from tickoff.entries import in_order


def bank(*places):
    return [("bank", place) for place in places]


def book(*places):
    return [("book", place) for place in places]


def on_days(*days):
    return [(day, 1) for day in days]


def numbers(start):
    """A row without end of whole numbers from 0 to 32767, the same for the same start."""
    while True:
        start = (start * 1103515245 + 12345) % 2147483648
        yield start >> 16


def fits_by_words(banks, books, span, match):
    """Point 4, condition by condition."""
    if (len(match[0]), len(match[1])) not in [(1, 1), (1, 2), (1, 3), (2, 1), (3, 1)]:
        return False
    sums = []
    days = []
    for places, entries in zip(match, (banks, books)):
        if any(low >= high for low, high in itertools.pairwise(places)):
            return False
        if any(place not in range(len(entries)) for place in places):
            return False
        sums.append(sum(entries[place][1] for place in places))
        days += [entries[place][0] for place in places]
    return sums[0] == sums[1] and all(day <= other + span for day in days for other in days)


def in_match_order(matches):
    """Point 5, place by place: the least of what is left stands next."""
    rows = [(len(match[0]) + len(match[1]), match[0], match[1]) for match in matches]
    told = []
    while rows:
        least = min(rows)
        rows.remove(least)
        told.append(least[1:])
    return told


def within_by_words(banks, books, span, group):
    """All pairs of any of the group's places, and of these just what fits."""
    sides = [sorted(place for side, place in group if side == name) for name in ("bank", "book")]
    some = [
        [places for many in range(len(side) + 1) for places in itertools.combinations(side, many)]
        for side in sides
    ]
    matches = [match for match in itertools.product(*some) if fits_by_words(banks, books, span, match)]
    return in_match_order(matches)


def left_without(rest, match):
    """What is left of a rest without a match, None where the match is not in it."""
    marks = bank(*match[0]) + book(*match[1])
    if not all(mark in rest for mark in marks):
        return None
    return tuple(mark for mark in rest if mark not in marks)


def least_left(rest, matches):
    """Point 6: of all rows of matches without a mark in common, that which leaves fewest."""
    least = len(rest)
    for at, match in enumerate(matches):
        left = left_without(rest, match)
        if left is not None:
            least = min(least, least_left(left, matches[at + 1:]))
    return least


def picked_by_words(group, matches):
    """Point 8, the least of each rest found by brute force."""
    told = []
    rest = tuple(group)
    while rest:
        least = least_left(rest, matches)
        for match in matches:
            left = left_without(rest, match)
            if rest[0] in bank(*match[0]) + book(*match[1]) and left is not None:
                if least_left(left, matches) == least:
                    told.append(match)
                    rest = left
                    break
        else:
            rest = rest[1:]
    return told


def some_groups(start, many):
    """Pairs of a group of up to eight marks and all matches that fit within it."""
    row = numbers(start)
    for _ in range(many):
        entries = [[], []]
        for _ in range(next(row) % 9):
            entries[next(row) % 2].append((next(row) % 4, (1, 2, 3, 4, -1)[next(row) % 5]))
        group = in_order(*entries)
        yield group, within_by_words(entries[0], entries[1], next(row) % 4, group)


# A group of a few marks more than eight, and matches within it.
TEN = (
    bank(0, 1, 2, 3, 4) + book(0, 1, 2, 3, 4),
    [((0,), (0,)), ((0,), (1,)), ((2,), (1,)), ((1,), (2, 3)), ((3, 4), (2,)), ((2, 3, 4), (0,))],
)

# None of these is a whole number, and none names a side.
OTHER_KINDS = (
    True, False, None, "", "5", "bank ", "Book", b"bank", 5.0, 0.5, [], [5], ["bank"], (), (5,), ("bank",),
    {}, {5: 5}, {"bank": "book"}, {5}, range(5), object(), int, len,
)


def put_all(ledger, *rows):
    """Puts each row (side, day, cents), and tells the ledger."""
    for side, day, cents in rows:
        ledger.put(side, day, cents)
    return ledger


def marks_in(ledger):
    """All marks of a ledger: each is in a match, or it is left."""
    marks = [(side, place) for side in ("bank", "book") for place in ledger.left(side)]
    for match in ledger.matches():
        marks += bank(*match[0]) + book(*match[1])
    return sorted(marks)


def told_by(ledger):
    """All that a ledger tells, to be compared with what it tells later."""
    marks = marks_in(ledger)
    return {
        "entries": [(mark, ledger.entry(*mark)) for mark in marks],
        "groups": [(mark, ledger.group_of(*mark)) for mark in marks],
        "left": [ledger.left("bank"), ledger.left("book")],
        "matches": ledger.matches(),
        "barred": ledger.barred(),
    }
