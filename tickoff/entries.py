"""The marks of two lists of entries, in order, and the groups they form."""


def _rows_of(side, entries):
    """A row (day, side, place) for each entry of one list."""
    return [(entry[0], side, place) for place, entry in enumerate(entries)]


def _rows_in_order(banks, books):
    """The rows of both lists, in the order of the marks."""
    # "bank" is less than "book", so the order of the rows as tuples is the
    # order of the marks; cents are left out lest they have a say in it.
    return sorted(_rows_of("bank", banks) + _rows_of("book", books))


def in_order(banks, books):
    """A list of all marks, in order."""
    return [(side, place) for day, side, place in _rows_in_order(banks, books)]


def groups(banks, books, span):
    """A list of all groups, in order, each a list of marks in order."""
    told = []
    ahead = None
    for day, side, place in _rows_in_order(banks, books):
        if ahead is None or day - ahead > span:
            told.append([])
        told[-1].append((side, place))
        ahead = day
    return told
