"""Events: which one of those that a taker gave out is wrong first."""

from tidecopy.tables import carry, changed, changes_of, is_key, is_number, is_worth


def is_event(place, word, key, worth):
    """Whether a drop has no worth, and another event one."""
    if not is_number(place) or not is_key(key):
        return False
    return worth is None if word == "drop" else is_worth(worth)


def events_of_changes(log, start):
    """What is to be given out for the changes of the groups from start on."""
    due = []
    for place, entry in enumerate(log[start:], start=start + 1):
        for change in changes_of(entry):
            due.append((place, change[0], change[1], change[2] if change[0] == "put" else None))
    return due


class Walk:
    """A walk along a log by events that are right: where it is, and what may no more be copied."""

    def __init__(self, table, log, start):
        self.log = log
        self.at = start
        self.due = events_of_changes(log, start)
        self.many_given = 0
        self.worths = {key: worth for key, worth in table}
        carry(self.worths, log, 0, start)
        # Keys that were changed from start on, or copied.
        self.settled = {}

    def go_to(self, place):
        carry(self.worths, self.log, self.at, place)
        for key in changed(self.log, self.at, place):
            self.settled[key] = True
        self.at = place

    def accepts(self, event):
        """Whether this is a right event behind those ahead; if so, the walk goes on to its place."""
        place, word, key, worth = event
        if not is_event(place, word, key, worth) or not self.at <= place <= len(self.log):
            return False
        self.go_to(place)
        if word == "copy":
            return self.accepts_copy(key, worth)
        self.many_given += 1
        return self.due[self.many_given - 1:self.many_given] == [event]

    def accepts_copy(self, key, worth):
        if key in self.settled:
            return False
        self.settled[key] = True
        return self.worths.get(key) == worth


def first_wrong(table, log, events, *, start=0):
    """The number of the first event that is wrong, from 0; None where none is."""
    walk = Walk(table, log, start)
    for number, event in enumerate(events):
        if not walk.accepts(event):
            return number
    return None
