"""Tables and logs: what they are, and what a log makes of a table."""

from tidecopy.errors import NoPlace

KEYS = 1000
WORTHS = 1000
MOST_ROWS = 100
MOST_CHANGES = 6
MOST_ENTRIES = 400


def is_number(thing):
    # Python counts truths among its integers, the document does not.
    return isinstance(thing, int) and not isinstance(thing, bool)


def is_key(thing):
    return is_number(thing) and 0 <= thing < KEYS


def is_worth(thing):
    return is_number(thing) and 0 <= thing < WORTHS


def is_row(thing):
    return isinstance(thing, tuple) and len(thing) == 2 and is_key(thing[0]) and is_worth(thing[1])


def is_rows(thing, first, last):
    """Whether anything is rows, keys rising, from first on, less than last; of however many rows."""
    if not isinstance(thing, tuple):
        return False
    least = first
    for row in thing:
        if not is_row(row) or not least <= row[0] < last:
            return False
        least = row[0] + 1
    return True


def is_table(thing):
    """Whether anything is a table."""
    return is_rows(thing, 0, KEYS) and len(thing) <= MOST_ROWS


def is_change(thing):
    if not isinstance(thing, tuple):
        return False
    if len(thing) == 2:
        return thing[0] == "drop" and is_key(thing[1])
    return len(thing) == 3 and thing[0] == "put" and is_key(thing[1]) and is_worth(thing[2])


def is_group(thing):
    """Whether anything is the changes of a group."""
    if not isinstance(thing, tuple) or not 1 <= len(thing) <= MOST_CHANGES:
        return False
    return all([is_change(change) for change in thing])


def is_mark(thing):
    if not isinstance(thing, tuple) or len(thing) != 3 or thing[0] not in ("low", "high"):
        return False
    return is_number(thing[1]) and thing[1] >= 1 and is_number(thing[2]) and thing[2] >= 0


def is_entry(thing):
    """Whether anything is an entry of a log."""
    if isinstance(thing, tuple) and len(thing) == 2:
        return thing[0] == "group" and is_group(thing[1])
    return is_mark(thing)


def is_log(thing):
    """Whether anything is a log."""
    if not isinstance(thing, list) or len(thing) > MOST_ENTRIES:
        return False
    return all([is_entry(entry) for entry in thing])


def check_place(log, place):
    if not 0 <= place <= len(log):
        raise NoPlace(place)


def changes_of(entry):
    """The changes of an entry, none of a mark."""
    return entry[1] if entry[0] == "group" else ()


def carry(rows, log, low, high):
    """Do the entries from place low up to place high to rows, a dict of worths by keys."""
    for entry in log[low:high]:
        for change in changes_of(entry):
            key = change[1]
            if change[0] == "put":
                rows[key] = change[2]
            elif key in rows:
                del rows[key]


def rows_at(table, log, place):
    """The table behind so many entries, as a new dict of worths by keys."""
    rows = {key: worth for key, worth in table}
    carry(rows, log, 0, place)
    return rows


def rising(rows):
    """A dict of worths by keys as a tuple of pairs, keys rising."""
    return tuple([(key, rows[key]) for key in sorted(rows)])


def table_at(table, log, place):
    """The table behind so many entries of the log; NoPlace."""
    check_place(log, place)
    return rising(rows_at(table, log, place))


def changed(log, low, high):
    """The keys told by a change between two places, rising, each once; NoPlace of each."""
    check_place(log, low)
    check_place(log, high)
    return sorted({change[1] for entry in log[low:high] for change in changes_of(entry)})
