"""What a log and pieces come to.

Sure keys are kept in a dict: the worth of each one, None of one that isn't there. So a key that
was dropped, or that a piece has no row of, is told from one that nothing is known of.
"""

from tidecopy.errors import NoPlace
from tidecopy.readings import gaps_between, stretches_of
from tidecopy.tables import changes_of, check_place, rising


def learn_change(known, change):
    """Make the key of a change sure."""
    known[change[1]] = change[2] if change[0] == "put" else None


def learn_piece(known, stretch, rows):
    """Make those keys of the stretch sure that are not; told are the new ones, rising."""
    first, last = stretch
    worths = {key: worth for key, worth in rows}
    new = [key for key in range(first, last) if key not in known]
    for key in new:
        known[key] = worths.get(key)
    return new


def known_rows(known):
    """The rows of all sure keys that are there, keys rising."""
    return rising({key: known[key] for key in known if known[key] is not None})


def joined(log, pieces, place, *, start=0):
    """The rows of all keys that are sure at a place, and the gaps; NoPlace."""
    check_place(log, start)
    check_place(log, place)
    if place < start:
        raise NoPlace(place)
    known = {}
    for entry in log[start:place]:
        for change in changes_of(entry):
            learn_change(known, change)
    for low, high, stretch, rows in pieces:
        if high <= place:
            learn_piece(known, stretch, rows)
    return (known_rows(known), gaps_between(stretches_of(sorted(known))))
