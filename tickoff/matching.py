"""Matches of the bank's entries and the book's: which fit, and their order."""

from itertools import combinations

MOST_PLACES = 3


def marks_of(match):
    """The list of a match's marks, the bank's ahead of the book's, by place."""
    bank_places, book_places = match
    return [("bank", place) for place in bank_places] + [("book", place) for place in book_places]


def sorted_matches(matches):
    """A new list of the matches, in order: those of fewer entries go ahead."""
    rows = sorted([(len(marks_of(match)), match) for match in matches])
    return [match for many, match in rows]


def _are_rising(places):
    """Whether the places rise, so that each place is there once."""
    return list(places) == sorted(set(places))


def _are_many_as_asked(bank_places, book_places):
    """Whether one has one place, and the other one has one, two or three."""
    fewer, more = sorted([len(bank_places), len(book_places)])
    return fewer == 1 and more <= MOST_PLACES


def _are_there(entries, places):
    """Whether each place is the place of an entry."""
    return all([0 <= place < len(entries) for place in places])


def _is_match_of(banks, books, match):
    """Whether it is a match at all, and all its places are there."""
    bank_places, book_places = match
    return (
        _are_many_as_asked(bank_places, book_places)
        and _are_rising(bank_places)
        and _are_rising(book_places)
        and _are_there(banks, bank_places)
        and _are_there(books, book_places)
    )


def _sum_of_cents(entries):
    """What the entries come to."""
    return sum([cents for day, cents in entries])


def fits(banks, books, span, match):
    """Whether a match of these entries fits: True or False."""
    if not _is_match_of(banks, books, match):
        return False
    bank_places, book_places = match
    ours = [banks[place] for place in bank_places]
    theirs = [books[place] for place in book_places]
    days = [day for day, cents in ours + theirs]
    return _sum_of_cents(ours) == _sum_of_cents(theirs) and max(days) - min(days) <= span


def _places_of(side, group):
    """The places of one list's marks in the group, rising."""
    # A group stands by days, so its places need not rise as they stand.
    return sorted([place for its_side, place in group if its_side == side])


def _choices(places, fewest):
    """All tuples, each rising, of the fewest to three of the places."""
    return [some for many in range(fewest, MOST_PLACES + 1) for some in combinations(places, many)]


def within(banks, books, span, group):
    """The list, in order, of all matches that fit and lie in the group."""
    bank_places = _places_of("bank", group)
    book_places = _places_of("book", group)
    one_bank = [((one,), some) for one in bank_places for some in _choices(book_places, 1)]
    # From two on: one against one stands among those above already.
    one_book = [(some, (one,)) for one in book_places for some in _choices(bank_places, 2)]
    return sorted_matches([match for match in one_bank + one_book if fits(banks, books, span, match)])
