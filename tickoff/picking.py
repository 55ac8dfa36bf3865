"""Picking matches for a group, so that as few marks as can be are left."""

from tickoff.matching import marks_of


def _by_mark(matches):
    """For each mark, a row (match, marks) for each match that has it, in order."""
    rows = {}
    for match in matches:
        marks = marks_of(match)
        for mark in marks:
            rows.setdefault(mark, []).append((match, marks))
    return rows


def _takings(rest, rows):
    """A pair (match, what then is left) for each match that can be taken out.

    These are the matches, in order, that have the first mark of the rest and
    all of whose marks are in the rest.
    """
    if not rest:
        return []
    return [
        (match, tuple([mark for mark in rest if mark not in marks]))
        for match, marks in rows.get(rest[0], [])
        if all([mark in rest for mark in marks])
    ]


def _all_takings(group, matches):
    """A dict from each rest that comes by going on to its takings."""
    rows = _by_mark(matches)
    found = {}
    waiting = [tuple(group)]
    while waiting:
        rest = waiting.pop()
        if rest not in found:
            found[rest] = _takings(rest, rows)
            waiting.extend([left for match, left in found[rest]])
            # Of the empty rest this is the empty rest, which is found by then.
            waiting.append(rest[1:])
    return found


def _least_of_all(takings):
    """A dict from each rest to the least that can be left of it."""
    least = {}
    # What comes by going on is shorter, so its number is there when asked for.
    for rest in sorted(takings, key=len):
        if rest:
            without_match = [least[left] for match, left in takings[rest]]
            least[rest] = min([1 + least[rest[1:]]] + without_match)
        else:
            least[rest] = 0
    return least


def table(group, matches):
    """A dict from the rests that come by going on to the least of each."""
    return _least_of_all(_all_takings(group, matches))


def _step(rest, takings, least):
    """The match to pick, None where there is none, and what then is left."""
    for match, left in takings:
        if least[left] == least[rest]:
            return match, left
    return None, rest[1:]


def picked(group, matches):
    """The list of matches that are picked for the group, as they are picked."""
    takings = _all_takings(group, matches)
    least = _least_of_all(takings)
    told = []
    rest = tuple(group)
    while rest:
        match, rest = _step(rest, takings[rest], least)
        if match is not None:
            told.append(match)
    return told
