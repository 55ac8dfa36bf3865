"""The ledger: both lists, the matches of their entries, and barred matches."""

from tickoff.entries import groups
from tickoff.errors import BadEntry, BadSpan, NoMatch, TooMany
from tickoff.matching import marks_of, sorted_matches, within
from tickoff.picking import picked

MOST_SPAN = 30
MOST_DAY = 9999
MOST_CENTS = 1000000000
MOST_MARKS = 8


def _is_whole(number, lowest, highest):
    """Whether it is a whole number within these bounds."""
    # Not isinstance, to which True and False are whole numbers too.
    return type(number) is int and lowest <= number <= highest


def _is_side(side):
    """Whether it is the name of one of the two lists."""
    # A thing of another kind may call itself equal to any text.
    return type(side) is str and side in ("bank", "book")


def _is_entry(day, cents):
    """Whether these are the day and the cents of an entry."""
    return _is_whole(day, 0, MOST_DAY) and _is_whole(cents, -MOST_CENTS, MOST_CENTS) and cents != 0


def _group_with(mark, rows):
    """The one of the groups that has the mark."""
    return [group for group in rows if mark in group][0]


class Ledger:
    """Both lists of entries, and which of them are ticked off."""

    def __init__(self, span):
        if not _is_whole(span, 0, MOST_SPAN):
            raise BadSpan("a span is a whole number of days from 0 to 30")
        self._span = span
        self._entries = {"bank": [], "book": []}
        self._groups = []
        self._matches = []
        self._barred = []

    def put(self, side, day, cents):
        """Puts an entry behind one of the lists and tells its place."""
        if not _is_side(side):
            raise BadEntry("a side is bank or book")
        if not _is_entry(day, cents):
            raise BadEntry("an entry has a day from 0 to 9999, and cents that are not 0")
        place = len(self._entries[side])
        # A list of its own, so that nothing has changed if it is refused.
        grown = {name: list(entries) for name, entries in self._entries.items()}
        grown[side].append((day, cents))
        rows = groups(grown["bank"], grown["book"], self._span)
        group = _group_with((side, place), rows)
        if len(group) > MOST_MARKS:
            raise TooMany("a group has up to eight marks")
        self._entries = grown
        self._groups = rows
        self._pick_anew(group)
        return place

    def _picks(self, group):
        """The matches that are picked for the group, none of them barred."""
        found = within(self._entries["bank"], self._entries["book"], self._span, group)
        return picked(group, [match for match in found if match not in self._barred])

    def _pick_anew(self, group):
        """Puts what is picked for the group in the place of its matches."""
        # A match lies in one group whole, so any of its marks tells which.
        others = [match for match in self._matches if marks_of(match)[0] not in group]
        self._matches = sorted_matches(others + self._picks(group))

    def entry(self, side, place):
        """The entry of a mark that is there."""
        return self._entries[side][place]

    def matches(self):
        """A list of all matches, in order."""
        return list(self._matches)

    def barred(self):
        """A list of the barred matches, in the order of their taking back."""
        return list(self._barred)

    def left(self, side):
        """A list of the places of a list's entries in no match, rising."""
        ticked = {mark: True for match in self._matches for mark in marks_of(match)}
        return [place for place in range(len(self._entries[side])) if (side, place) not in ticked]

    def group_of(self, side, place):
        """The group of a mark that is there."""
        return list(_group_with((side, place), self._groups))

    def take_back(self, match):
        """Takes a match back: it goes, and is barred from then on."""
        if match not in self._matches:
            raise NoMatch("it is none of the matches")
        self._matches = [other for other in self._matches if other != match]
        self._barred.append(match)

    def again(self):
        """Picks all groups anew."""
        # Each match lies in a group, so what is picked now is all there is.
        self._matches = sorted_matches([match for group in self._groups for match in self._picks(group)])
