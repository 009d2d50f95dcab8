"""The house: a table that changes, the log of its changes, lives, and readings of the table."""

from tidecopy.errors import (Ended, Held, NoChange, NoLife, NoPlace, NoReading, NoStretch, NotEnded, NoTable, TooMany,
                             Trimmed)
from tidecopy.readings import is_stretch, least_row
from tidecopy.tables import MOST_ROWS, carry, is_group, is_table, rising

FEW = 5


class Reading:
    """A reading that is open."""

    def __init__(self, owner, first, last):
        self.owner = owner
        self.stretch = (first, last)
        self.found = []
        self.ended = False

    def copied(self):
        first, last = self.stretch
        twin = Reading(self.owner, first, last)
        twin.found = list(self.found)
        twin.ended = self.ended
        return twin

    def look_once(self, worths):
        """Find the next row, or the end."""
        first, last = self.stretch
        if self.found:
            first = self.found[-1][0] + 1
        row = least_row(worths, first, last)
        if row is None:
            self.ended = True
        else:
            self.found.append(row)


class House:
    """A table, its log, and the lives that read it; NoTable."""

    def __init__(self, table=()):
        if not is_table(table):
            raise NoTable("no table")
        self.worths = {key: worth for key, worth in table}
        self.kept = []
        self.first_kept = 0
        self.lives_given = 0
        self.begun = 0
        # The place that each life holds, None for none; and open readings by their numbers.
        self.living = {}
        self.running = {}

    def copied(self):
        """A house that goes on by itself from here."""
        twin = House()
        # Worths are never changed in place, so that both may have the same ones.
        twin.worths = self.worths
        twin.kept = list(self.kept)
        twin.first_kept = self.first_kept
        twin.lives_given = self.lives_given
        twin.begun = self.begun
        twin.living = dict(self.living)
        twin.running = {number: reading.copied() for number, reading in self.running.items()}
        return twin

    def change(self, changes):
        """Do a group of changes; NoChange, TooMany."""
        if not is_group(changes):
            raise NoChange("no group of changes")
        entry = ("group", changes)
        worths = dict(self.worths)
        carry(worths, [entry], 0, 1)
        if len(worths) > MOST_ROWS:
            raise TooMany(len(worths))
        self.worths = worths
        self.kept.append(entry)

    def life(self):
        """Give a new life."""
        self.lives_given += 1
        self.living[self.lives_given] = None
        return self.lives_given

    def begin(self, life, first, last):
        """Begin a reading of a stretch; told is its number; NoLife, NoStretch."""
        self.check_life(life)
        if not is_stretch(first, last):
            raise NoStretch("no stretch of keys")
        number = self.begun
        self.begun += 1
        self.running[number] = Reading(life, first, last)
        self.kept.append(("low", life, number))
        return number

    def look(self, number, *, many=FEW):
        """Look on by so many looks; told are the rows found; NoReading, Ended."""
        reading = self.running_one(number)
        if reading.ended:
            raise Ended("the reading came to its end")
        ahead = len(reading.found)
        for at in range(many):
            if not reading.ended:
                reading.look_once(self.worths)
        return tuple(reading.found[ahead:])

    def finish(self, number):
        """Finish a reading that ended; told are all its rows; NoReading, NotEnded."""
        reading = self.running_one(number)
        if not reading.ended:
            raise NotEnded("the reading did not come to its end")
        del self.running[number]
        self.kept.append(("high", reading.owner, number))
        return tuple(reading.found)

    def stop(self, number):
        """Stop a reading, without a mark; NoReading."""
        self.running_one(number)
        del self.running[number]

    def hold(self, life, place):
        """Let a life hold a place; NoLife, NoPlace."""
        self.check_life(life)
        self.check_kept(place)
        self.living[life] = place

    def leave(self, life):
        """Let a life leave, and stop its readings; NoLife."""
        self.check_life(life)
        del self.living[life]
        self.running = {number: reading for number, reading in self.running.items() if reading.owner != life}

    def trim(self, place):
        """Forget the entries ahead of a place; NoPlace, Held."""
        self.check_kept(place)
        for life, held in self.holds():
            if held < place:
                raise Held(life)
        self.kept = self.kept[place - self.first_kept:]
        self.first_kept = place

    def table(self):
        return rising(self.worths)

    def places(self):
        """The first kept place, and how long the log is in all."""
        return (self.first_kept, self.first_kept + len(self.kept))

    def entries(self, place, *, many=FEW):
        """Up to so many entries from a place on; NoPlace, Trimmed."""
        first, last = self.places()
        if place > last:
            raise NoPlace(place)
        if place < first:
            raise Trimmed(first)
        return self.kept[place - first:][:max(0, many)]

    def holds(self):
        """The places held, as pairs (life, place), lives rising."""
        return [(life, self.living[life]) for life in sorted(self.living) if self.living[life] is not None]

    def readings(self):
        """Open readings: (number, life, stretch, rows so far, whether it ended), numbers rising."""
        told = []
        for number in sorted(self.running):
            reading = self.running[number]
            told.append((number, reading.owner, reading.stretch, tuple(reading.found), reading.ended))
        return told

    def running_one(self, number):
        if number not in self.running:
            raise NoReading(number)
        return self.running[number]

    def check_life(self, life):
        if life not in self.living:
            raise NoLife(life)

    def check_kept(self, place):
        first, last = self.places()
        if not first <= place <= last:
            raise NoPlace(place)
