"""Points 2, 3 and 13: the first event that is wrong."""

import copy
import random
import unittest

from tests.things import model_table_at
from tidecopy import events as module
from tidecopy.events import first_wrong
from tidecopy.house import House
from tidecopy.takers import Taker

HUGE = 10 ** 40 - 1
TABLE = ((0, 5), (4, 6), (7, 0), (999, 7))
LOG = [("group", (("put", 2, 8), ("drop", 4))), ("low", 1, 0), ("group", (("put", 2, 9),)), ("high", 1, 0),
       ("group", (("put", 3, 1), ("put", 3, 2), ("drop", 3), ("drop", 3), ("put", 3, 0), ("drop", 500))), ("low", 2, 1)]
CHANGES = [(1, "put", 2, 8), (1, "drop", 4, None), (3, "put", 2, 9), (5, "put", 3, 1), (5, "put", 3, 2),
           (5, "drop", 3, None), (5, "drop", 3, None), (5, "put", 3, 0), (5, "drop", 500, None)]
KEYS = (0, 1, 2, 3, 4, 7, 998, 999)


def changes_from(log, start):
    told = []
    for at in range(start, len(log)):
        if log[at][0] == "group":
            for word, key, *worth in log[at][1]:
                told.append((at + 1, word, key, worth[0] if worth else None))
    return told


def is_model_wrong(table, log, events, start, number):
    """Each word of point 13 by itself; the events ahead are right."""
    place, word, key, worth = events[number]
    ahead = events[:number]
    if word != "copy":
        given = [event for event in ahead if event[1] != "copy"]
        due = changes_from(log, start)
        if (worth is None) != (word == "drop") or any(event[0] > place for event in ahead):
            return True
        return len(given) >= len(due) or due[len(given)] != events[number]
    if worth is None or place < start or place > len(log) or (ahead and place < ahead[-1][0]):
        return True
    if any(event[0] <= place and event[2] == key for event in changes_from(log, start)):
        return True
    if key in [event[2] for event in ahead if event[1] == "copy"]:
        return True
    return (key, worth) not in model_table_at(table, log, place)


def model_first_wrong(table, log, events, start=0):
    for number in range(len(events)):
        if is_model_wrong(table, log, events, start, number):
            return number
    return None


class Case(unittest.TestCase):
    def told(self, number, events, table=TABLE, log=LOG, start=0):
        self.assertEqual(first_wrong(table, log, events, start=start), number, events)
        self.assertEqual(model_first_wrong(table, log, events, start), number, events)


class Changes(Case):
    def test_no_events(self):
        for start in range(len(LOG) + 1):
            self.told(None, [], start=start)
        self.assertIs(first_wrong((), [], []), None)

    def test_all_changes_or_the_first_ones(self):
        for many in range(len(CHANGES) + 1):
            self.told(None, CHANGES[:many])

    def test_one_left_out(self):
        for at, wrong in enumerate((0, 1, 2, 3, 4, 6, 6, 7, None)):
            self.told(wrong, CHANGES[:at] + CHANGES[at + 1:])

    def test_one_twice(self):
        for at, wrong in enumerate((1, 2, 3, 4, 5, 7, 7, 8, 9)):
            self.told(wrong, CHANGES[:at + 1] + CHANGES[at:])

    def test_two_exchanged(self):
        for at, wrong in enumerate((0, 1, 2, 3, 4, None, 6, 7)):
            self.told(wrong, CHANGES[:at] + [CHANGES[at + 1], CHANGES[at]] + CHANGES[at + 2:])

    def test_one_otherwise(self):
        for at, (place, word, key, worth) in enumerate(CHANGES):
            other = "drop" if word == "put" else "put"
            for event in ((place - 1, word, key, worth), (place + 1, word, key, worth), (HUGE, word, key, worth),
                          (-HUGE, word, key, worth), (place, other, key, worth), (place, word, key + 1, worth),
                          (place, word, key, 998), (place, other, key, 0), (place, other, key, None)):
                self.told(at, CHANGES[:at] + [event] + CHANGES[at + 1:])

    def test_a_drop_with_a_worth_and_others_without(self):
        for worth in (0, 6, 999):
            self.told(1, [CHANGES[0], (1, "drop", 4, worth), *CHANGES[2:]])
        self.told(0, [(1, "put", 2, None), *CHANGES[1:]])
        self.told(0, [(0, "copy", 1, None)])
        self.told(0, [(1, "copy", 4, None)])
        self.told(2, [*CHANGES[:2], (2, "copy", 0, None)])

    def test_none_is_no_worth_of_a_key_that_is_not_there(self):
        self.told(0, [(0, "copy", 8, None)], table=(), log=[])
        self.told(0, [(0, "copy", 8, 0)], table=(), log=[])

    def test_more_than_there_are(self):
        self.told(len(CHANGES), CHANGES + [CHANGES[-1]])
        self.told(len(CHANGES), CHANGES + [(6, "put", 1, 1)])
        self.told(0, [(1, "put", 1, 1)], log=[])
        self.told(0, [(1, "put", 1, 1)], log=[("low", 1, 0)])

    def test_from_each_start(self):
        for start in range(len(LOG) + 1):
            due = [event for event in CHANGES if event[0] > start]
            self.assertEqual(changes_from(LOG, start), due)
            self.told(None, due, start=start)
            if start > 0:
                self.told(0, CHANGES, start=start)

    def test_a_put_or_drop_behind_an_event_of_a_greater_place(self):
        self.told(1, [(1, "copy", 0, 5), *CHANGES[2:]])
        self.told(None, [(1, "copy", 0, 5), *CHANGES])
        self.told(1, [(2, "copy", 0, 5), *CHANGES])
        self.told(3, [*CHANGES[:2], (4, "copy", 0, 5), *CHANGES[2:]])
        self.told(2, [CHANGES[0], (2, "copy", 0, 5), *CHANGES[1:]])
        self.told(None, [*CHANGES[:2], (3, "copy", 0, 5), *CHANGES[2:]])
        self.told(None, [*CHANGES[:5], (5, "copy", 0, 5), *CHANGES[5:]])


class Copies(Case):
    def test_at_each_place_from_each_start(self):
        for start in range(len(LOG) + 1):
            for place in (*range(-1, len(LOG) + 2), HUGE, -HUGE):
                for key, worth in ((0, 5), (999, 7), (7, 0)):
                    self.told(None if start <= place <= len(LOG) else 0, [(place, "copy", key, worth)], start=start)

    def test_its_place_is_less_than_that_of_the_event_ahead(self):
        self.told(None, [(2, "copy", 0, 5), (2, "copy", 999, 7), (3, "copy", 7, 0)])
        self.told(1, [(2, "copy", 0, 5), (1, "copy", 999, 7)])
        self.told(3, [*CHANGES[:3], (2, "copy", 999, 7)])
        self.told(None, [*CHANGES[:3], (3, "copy", 999, 7)])

    def test_an_entry_from_start_up_to_its_place_changes_the_key(self):
        self.told(None, [(0, "copy", 4, 6)])
        self.told(0, [(1, "copy", 4, 6)])
        self.told(0, [(1, "copy", 2, 8)])
        self.told(0, [(1, "copy", 2, 8)], start=0)
        self.told(None, [(1, "copy", 2, 8)], start=1)
        self.told(None, [(2, "copy", 2, 8)], start=1)
        self.told(0, [(3, "copy", 2, 9)], start=1)
        self.told(None, [(3, "copy", 2, 9)], start=3)
        self.told(0, [(5, "copy", 3, 0)], start=4)
        self.told(None, [(5, "copy", 3, 0)], start=5)
        self.told(None, [(0, "copy", 4, 6), *CHANGES])
        log = [("group", (("put", 0, 5),)), ("group", (("drop", 8),))]
        self.told(0, [(1, "copy", 0, 5)], log=log)
        self.told(None, [(1, "copy", 0, 5), (2, "drop", 8, None)], log=log, start=1)

    def test_copied_ahead(self):
        self.told(1, [(0, "copy", 0, 5), (0, "copy", 0, 5)])
        self.told(2, [(0, "copy", 0, 5), (1, "copy", 7, 0), (4, "copy", 0, 5)])
        self.told(1, [(1, "copy", 2, 8), (3, "copy", 2, 9)], start=1)

    def test_the_table_has_not_just_this_worth_there(self):
        for key, worth in ((0, 4), (0, 6), (1, 0), (1, 1), (7, 1), (999, 8), (998, 7)):
            self.told(0, [(0, "copy", key, worth)])
        self.told(0, [(1, "copy", 2, 9)], start=1)
        self.told(0, [(2, "copy", 4, 6)], start=1)
        self.told(0, [(0, "copy", 2, 8)])

    def test_changes_left_out_ahead_of_a_copy_at_the_end_are_not_wrong(self):
        self.told(None, [(6, "copy", 0, 5)])
        self.told(None, [CHANGES[0], (6, "copy", 0, 5)])
        self.told(2, [CHANGES[0], (6, "copy", 0, 5), CHANGES[1]])

    def test_the_first_one_of_several(self):
        self.told(0, [(1, "copy", 4, 6), (9, "copy", 0, 0)])
        self.told(1, [(0, "copy", 4, 6), (9, "copy", 0, 0), (1, "copy", 4, 6)])


def some_life(chance):
    """A house and a taker that joined somewhere, and all that it gave out."""
    table = tuple((key, chance.randrange(1000)) for key in (*KEYS[:6], *range(100, 110), *KEYS[6:]) if chance.randrange(2))
    house = House(table)
    taker = None
    for at in range(40):
        word = chance.choice(("change", "change", "join", "ask", "look", "look", "finish", "take", "take"))
        if word == "change":
            house.change(tuple(chance.choice((("drop", chance.choice(KEYS)), ("put", chance.choice(KEYS), at)))
                               for change in range(chance.randint(1, 6))))
        elif word == "join" and taker is None:
            taker = Taker(house.life(), place=house.places()[1])
            start = taker.place()
        elif word == "ask" and taker is not None:
            first, last = sorted(chance.sample((0, 1, 3, 5, 999, 1000), 2))
            taker.ask(house.begin(taker.life(), first, last), first, last)
        elif word in ("look", "finish"):
            for number, life, stretch, rows, ended in house.readings():
                if ended and word == "finish":
                    taker.answer(number, house.finish(number))
                elif not ended and word == "look":
                    house.look(number, many=chance.randint(1, 3))
    if taker is None:
        return some_life(chance)
    take_all(house, taker)
    return table, house.entries(0, many=400), taker.events(), start


def take_all(house, taker):
    going = [reading[0] for reading in house.readings()]
    for entry in house.entries(taker.place(), many=400):
        taker.take(entry)
    assert [row[0] for row in taker.asked()] == going


def spoiled_events(chance, events, places):
    """Events with one of them otherwise, left out, twice, or exchanged with the next one."""
    at = chance.randrange(len(events))
    place, word, key, worth = events[at]
    yield events[:at] + events[at + 1:]
    yield events[:at + 1] + events[at:]
    yield events[:at] + events[at:at + 2][::-1] + events[at + 2:]
    for event in ((chance.choice(places), word, key, worth), (place, "copy", key, worth), (place, "put", key, worth),
                  (place, "drop", key, worth), (place, "drop", key, None), (place, word, chance.choice(KEYS), worth),
                  (place, word, key, None), (place, word, key, chance.randrange(40)), (place, "copy", key, None)):
        yield events[:at] + [event] + events[at + 1:]
        yield events[:at] + [event] + events[at:]


class Drawn(Case):
    def test_what_takers_give_out_and_what_is_near_to_it(self):
        chance = random.Random(41)
        seen, copies = set(), 0
        for run in range(180):
            table, log, events, start = some_life(chance)
            self.told(None, events, table, log, start)
            copies += len([event for event in events if event[1] == "copy"])
            for cut in range(0, len(events), 5):
                self.told(None, events[:cut], table, log, start)
            for other in spoiled_events(chance, events, range(-1, len(log) + 2)) if events else ():
                for begin in (start, chance.randint(0, len(log))):
                    number = model_first_wrong(table, log, other, begin)
                    self.assertEqual(first_wrong(table, log, other, start=begin), number)
                    seen.add(None if number is None else min(number, 20))
        self.assertGreater(copies, 200)
        self.assertEqual(seen, {None, *range(21)})

    def test_the_longest_log_and_five_hundred_events(self):
        table = tuple((key, key) for key in range(100))
        log = [("group", tuple(("put", 100 + at, key) for key in range(6))) for at in range(400)]
        due = changes_from(log, 0)
        copies = [(0, "copy", key, key) for key in range(100)]
        self.assertIs(first_wrong(table, log, copies + due[:400]), None)
        self.assertEqual(first_wrong(table, log, copies + due[:300] + [copies[0]]), 400)
        self.assertIs(first_wrong(table, log, due[-6:] + [(400, "copy", key, key) for key in range(100)], start=399), None)
        self.assertEqual(first_wrong(table, log, due[-6:] + [(400, "copy", key, key) for key in range(101)], start=399), 106)


class Handed(Case):
    def test_by_names_in_any_order(self):
        self.assertEqual(first_wrong(start=1, events=CHANGES, log=LOG, table=TABLE), 0)
        self.assertIs(first_wrong(events=CHANGES, table=TABLE, log=LOG), None)
        self.assertRaises(TypeError, first_wrong, TABLE, LOG, CHANGES, 0)

    def test_a_number_is_told(self):
        self.assertEqual(repr(first_wrong(TABLE, LOG, [CHANGES[1]])), "0")
        self.assertEqual(repr(first_wrong(TABLE, LOG, [CHANGES[0], CHANGES[0]])), "1")

    def test_nothing_is_changed_and_the_same_is_told_again(self):
        handed = [TABLE, copy.deepcopy(LOG), [*CHANGES, (6, "copy", 0, 4)]]
        written = repr(handed)
        for at in range(3):
            self.assertEqual(first_wrong(*handed), 9)
        self.assertEqual(repr(handed), written)

    def test_it_is_defined_in_events(self):
        self.assertEqual(first_wrong.__module__, "tidecopy.events")
        self.assertIs(module.first_wrong, first_wrong)


if __name__ == "__main__":
    unittest.main()
