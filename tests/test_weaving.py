"""Point 3: houses and takers woven together by a drawn but fixed order of all that can happen."""

import random
import unittest

from tests.models import model_stretches
from tests.things import model_table_at
from tidecopy.errors import Waits
from tidecopy.house import House
from tidecopy.joining import joined
from tidecopy.takers import Taker

KEYS = (*range(25), 500, 998, 999)
EDGES = (0, 1, 4, 9, 13, 20, 24, 25, 500, 501, 999, 1000)
STEPS = ("change", "change", "ask", "look", "look", "look", "finish", "finish", "finish", "stop", "deliver", "deliver",
         "lose", "take", "take", "take", "give_up", "save", "fall", "trim")


def keys_of(stretches):
    return {key for first, last in stretches for key in range(first, last)}


class Copying:
    """A taker, what it saved last, what it began with, and the pieces that it has done since."""

    def __init__(self, house, saved):
        self.saved = saved
        self.begin(house)

    def begin(self, house):
        self.life = house.life()
        self.began = self.saved
        self.done = []
        self.taker = Taker(self.life, saved=self.saved)
        house.hold(self.life, self.saved[0])


class Scene:
    """One house, some takers, the wire between them, the whole log and the table behind each entry."""

    def __init__(self, test, seed):
        self.test = test
        self.chance = random.Random(seed)
        table = tuple((key, self.chance.randrange(1000)) for key in KEYS if self.chance.randrange(2))
        self.house, self.table, self.tables, self.log, self.wire = House(table), table, [table], [], []
        self.copyings, self.sent = [], {}
        self.counts = dict.fromkeys(("waits", "copies", "falls", "trimmed", "late", "done"), 0)
        for at in range(self.chance.randint(0, 3)):
            self.do_change()
        for at in range(self.chance.randint(1, 3)):
            self.copyings.append(Copying(self.house, (len(self.log), (), ())))

    def write(self):
        """Read on in the log, as long as nothing of it is trimmed."""
        for entry in self.house.entries(len(self.log), many=400):
            self.log.append(entry)
            self.tables.append(model_table_at(self.tables[-1], [entry], 1))

    def do(self, name):
        getattr(self, "do_" + name)()

    def one(self):
        return self.chance.choice(self.copyings)

    def owner(self, life):
        return [copying for copying in self.copyings if copying.life == life][0]

    def reading(self, ended):
        """An open reading that ended or didn't, None without any."""
        told = [reading for reading in self.house.readings() if reading[4] is ended]
        return self.chance.choice(told) if told else None

    def do_change(self):
        changes = []
        for at in range(self.chance.randint(1, 3)):
            key = self.chance.choice(KEYS)
            changes.append(self.chance.choice((("drop", key), ("put", key, self.chance.randrange(1000)))))
        self.house.change(tuple(changes))
        self.write()

    def do_ask(self, copying=None, stretch=None):
        copying = copying or self.one()
        first, last = stretch or sorted(self.chance.sample(EDGES, 2))
        number = self.house.begin(copying.life, first, last)
        self.write()
        copying.taker.ask(number, first, last)
        return number

    def do_look(self):
        reading = self.reading(False)
        if reading is not None:
            self.house.look(reading[0], many=self.chance.randint(0, 8))

    def do_finish(self):
        reading = self.reading(True)
        if reading is not None:
            self.finish(reading[0], reading[1])

    def finish(self, number, life):
        self.sent[number] = self.house.finish(number)
        self.wire.append((number, self.owner(life), self.sent[number]))
        self.write()

    def do_stop(self):
        reading = self.reading(self.chance.choice((True, False)))
        if reading is not None:
            self.house.stop(reading[0])
            if self.chance.randrange(2):
                self.give_up(self.owner(reading[1]), reading[0])

    def give_up(self, copying, number):
        if number in [row[0] for row in copying.taker.asked()]:
            copying.taker.give_up(number)

    def do_deliver(self):
        if self.wire:
            number, copying, rows = self.wire.pop(self.chance.randrange(len(self.wire)))
            told = [row for row in copying.taker.asked() if row[0] == number]
            if told:
                copying.taker.answer(number, rows)
                self.counts["late"] += told[0][2]

    def do_lose(self):
        if self.wire and self.chance.randrange(3) == 0:
            self.wire.pop(self.chance.randrange(len(self.wire)))

    def do_give_up(self):
        copying = self.one()
        told = copying.taker.asked()
        if told and self.chance.randrange(3) == 0:
            copying.taker.give_up(self.chance.choice(told)[0])

    def do_save(self):
        copying = self.one()
        copying.saved = copying.taker.saved()
        self.house.hold(copying.life, copying.saved[0])

    def do_fall(self):
        if self.chance.randrange(4) == 0:
            copying = self.one()
            self.check_events(copying)
            self.check_joined(copying)
            self.wire = [sent for sent in self.wire if sent[1] is not copying]
            self.house.leave(copying.life)
            copying.begin(self.house)
            self.counts["falls"] += copying.saved[0] > 0
            self.check(copying)

    def do_trim(self):
        place = min(place for life, place in self.house.holds())
        self.counts["trimmed"] += place > self.house.places()[0]
        self.house.trim(place)
        self.test.assertEqual(self.house.places(), (place, len(self.log)))

    def do_take(self, copying=None, many=None):
        copying = copying or self.one()
        for entry in self.house.entries(copying.taker.place(), many=many or self.chance.randint(1, 9)):
            if not self.take(copying, entry):
                return

    def take(self, copying, entry):
        """Take one entry, and check all; False where it waits."""
        taker = copying.taker
        ahead = (taker.saved(), taker.events(), taker.asked())
        going = [row for row in taker.asked() if entry == ("high", copying.life, row[0]) and row[2]]
        try:
            taker.take(entry)
        except Waits as waits:
            self.test.assertEqual([(row[0], row[3]) for row in going], [(waits.number, False)])
            self.test.assertEqual((taker.saved(), taker.events(), taker.asked()), ahead)
            self.counts["waits"] += 1
            return False
        copying.done.extend((row[0], row[1]) for row in going)
        self.counts["done"] += len(going)
        self.test.assertEqual(taker.place(), ahead[0][0] + 1)
        self.test.assertEqual(self.log[taker.place() - 1], entry)
        self.check(copying)
        return True

    def check(self, copying):
        """What is sure is just what the house's table had behind the entries taken; and nothing else is sure."""
        taker = copying.taker
        place, sure = taker.place(), keys_of(taker.sure())
        self.test.assertEqual(taker.rows(), tuple(row for row in self.tables[place] if row[0] in sure))
        changed = {change[1] for entry in self.log[copying.began[0]:place] if entry[0] == "group" for change in entry[1]}
        copied = keys_of([stretch for number, stretch in copying.done])
        self.test.assertEqual(taker.sure(), model_stretches(keys_of(copying.began[2]) | changed | copied))
        if sure == set(range(1000)):
            self.test.assertEqual(taker.rows(), self.tables[place])

    def check_events(self, copying):
        """Puts and drops are just the changes taken; a copy is of a key that was not sure, and has its worth there."""
        taker, start = copying.taker, copying.began[0]
        events = taker.events()
        changes = [(at + 1, change[0], change[1], change[2] if change[0] == "put" else None)
                   for at, entry in enumerate(self.log[:taker.place()]) if at >= start and entry[0] == "group"
                   for change in entry[1]]
        self.test.assertEqual([event for event in events if event[1] != "copy"], changes)
        self.test.assertEqual([event[0] for event in events], sorted(event[0] for event in events))
        copies = [event for event in events if event[1] == "copy"]
        self.test.assertEqual(len({event[2] for event in copies}), len(copies))
        for place, word, key, worth in copies:
            self.test.assertIn((key, worth), self.tables[place])
            self.test.assertNotIn(key, keys_of(copying.began[2]))
            self.test.assertEqual([change for change in changes if change[2] == key and change[0] <= place], [])
        self.counts["copies"] += len(copies)

    def check_joined(self, copying):
        """A taker that began with a place alone comes to the same as log and pieces, in any order."""
        if copying.began[1:] == ((), ()):
            place = copying.taker.place()
            pieces = [(self.log.index(("low", copying.life, number)) + 1,
                       self.log.index(("high", copying.life, number)) + 1, stretch, self.sent[number])
                      for number, stretch in copying.done]
            self.chance.shuffle(pieces)
            rows, gaps = joined(self.log, pieces, place, start=copying.began[0])
            self.test.assertEqual(rows, copying.taker.rows())
            self.test.assertEqual(keys_of(gaps), set(range(1000)) - keys_of(copying.taker.sure()))

    def end(self):
        """Ask for all gaps, read them among changes, deliver in any order, take all: each taker is whole."""
        for number, *rest in self.house.readings():
            self.house.stop(number)
        for copying in self.copyings:
            for number, *rest in copying.taker.asked():
                copying.taker.give_up(number)
            self.do_take(copying, 400)
            gaps = model_stretches(set(range(1000)) - keys_of(copying.taker.sure()))
            for stretch in gaps:
                self.do_ask(copying, stretch)
        while self.house.readings():
            self.do(self.chance.choice(("change", "look", "look", "look", "look", "finish", "take")))
        while self.wire:
            self.do_deliver()
        for copying in self.copyings:
            self.do_take(copying, 400)
            self.test.assertEqual(copying.taker.place(), len(self.log))
            self.test.assertEqual(copying.taker.sure(), ((0, 1000),))
            self.test.assertEqual(copying.taker.rows(), self.house.table())
            self.test.assertEqual(copying.taker.asked(), [])
            self.check_events(copying)
            self.check_joined(copying)


class Weaving(unittest.TestCase):
    def test_each_entry_taken(self):
        counts = {}
        for seed in range(60):
            scene = Scene(self, seed)
            for at in range(150):
                scene.do(scene.chance.choice(STEPS))
            scene.end()
            counts = {name: counts.get(name, 0) + scene.counts[name] for name in scene.counts}
        for name, many in {"waits": 100, "copies": 300, "falls": 50, "trimmed": 50, "late": 100, "done": 200}.items():
            self.assertGreater(counts[name], many, name)

    def test_what_is_saved_while_rows_are_on_the_way(self):
        house = House(((1, 1), (2, 2)))
        one = Copying(house, (0, (), ()))
        number = house.begin(one.life, 0, 1000)
        one.taker.ask(number, 0, 1000)
        house.look(number, many=1)
        house.change((("put", 1, 9), ("drop", 2)))
        house.look(number)
        rows = house.finish(number)
        self.assertEqual(rows, ((1, 1),))
        for entry in house.entries(0, many=2):
            one.taker.take(entry)
        one.saved = one.taker.saved()
        house.leave(one.life)
        one.begin(house)
        for entry in house.entries(2):
            one.taker.take(entry)
        self.assertEqual((one.taker.saved(), one.taker.events()), ((3, ((1, 9),), ((1, 3),)), []))
        self.assertEqual((one.life, house.holds()), (2, [(2, 2)]))

    def test_a_house_that_is_full(self):
        house = House(tuple((key, 1) for key in range(0, 200, 2)))
        copying = Copying(house, (0, (), ()))
        number = house.begin(copying.life, 0, 1000)
        copying.taker.ask(number, 0, 1000)
        while not house.readings()[0][4]:
            house.look(number, many=7)
            rows = house.table()
            house.change((("drop", rows[0][0]), ("put", rows[-1][0] + 1, 5)))
        copying.taker.answer(number, house.finish(number))
        for entry in house.entries(0, many=400):
            copying.taker.take(entry)
        self.assertEqual((copying.taker.rows(), copying.taker.sure()), (house.table(), ((0, 1000),)))
        self.assertEqual(len(copying.taker), 100)


if __name__ == "__main__":
    unittest.main()
