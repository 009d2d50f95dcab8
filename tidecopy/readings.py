"""Readings: what looks at a changing table find, and when rows can have been read."""

from tidecopy.tables import KEYS, carry, check_place, rows_at


def is_stretch(first, last):
    return 0 <= first < last <= KEYS


def stretches_of(keys):
    """The fewest stretches of just these keys, which rise."""
    stretches = []
    for key in keys:
        if stretches and stretches[-1][1] == key:
            stretches[-1] = (stretches[-1][0], key + 1)
        else:
            stretches.append((key, key + 1))
    return tuple(stretches)


def gaps_between(stretches):
    """The stretches of all keys that are in none of these, which rise and don't touch."""
    edges = [0]
    for first, last in stretches:
        edges += [first, last]
    edges.append(KEYS)
    pairs = [(edges[at], edges[at + 1]) for at in range(0, len(edges), 2)]
    return tuple([(first, last) for first, last in pairs if first < last])


def least_row(rows, first, last):
    """The row of the least key from first on, less than last; None without any."""
    for key in range(first, last):
        if key in rows:
            return (key, rows[key])
    return None


def read_by(table, log, stretch, moments):
    """The rows read by looks at these moments; None where not just the last one ends it."""
    first, last = stretch
    rows = rows_at(table, log, 0)
    place = 0
    found = []
    for many, moment in enumerate(moments, start=1):
        carry(rows, log, place, moment)
        place = moment
        row = least_row(rows, first, last)
        if row is None:
            return tuple(found) if many == len(moments) else None
        found.append(row)
        first = row[0] + 1
    return None


def least_moments(table, log, low, high, stretch, rows):
    """The least moments of the first rows that can be read so, and of the end behind all; NoPlace.

    Whether a look finds a row hangs on the rows ahead of it, not on their moments. So the
    least moment for each one, from that of the one ahead on, is the best one for all behind.
    """
    check_place(log, low)
    check_place(log, high)
    first, last = stretch
    wanted = [*rows, None]
    there = rows_at(table, log, low)
    place = low
    found = []
    while place <= high and len(found) < len(wanted):
        row = least_row(there, first, last)
        if row == wanted[len(found)]:
            found.append(place)
            # Behind the end there is nothing left to be found.
            first = last if row is None else row[0] + 1
        else:
            carry(there, log, place, place + 1)
            place += 1
    return found


def moments(table, log, low, high, stretch, rows):
    """The least moments at which just these rows are read; None where there are none; NoPlace."""
    found = least_moments(table, log, low, high, stretch, rows)
    return tuple(found) if len(found) > len(rows) else None


def odd(table, log, low, high, stretch, rows):
    """The number of the first row that can not be, len(rows) of the end; None where all can; NoPlace."""
    found = least_moments(table, log, low, high, stretch, rows)
    return None if len(found) > len(rows) else len(found)
