"""Points 2, 3, 9 and 10: the house."""

import copy
import random
import unittest

from tests.models import ModelHouse, outcome
from tests.things import ANYTHING, model_table_at, spoiled
from tidecopy import house as module
from tidecopy.house import FEW, House
from tidecopy.readings import moments
from tidecopy.tables import is_entry, is_log, is_table, table_at

TABLE = ((0, 5), (4, 6), (7, 7), (999, 8))
HUGE = 10 ** 40 - 1
KEYS = (0, 1, 2, 3, 4, 5, 500, 998, 999)
TOLD = ("table", "places", "holds", "readings")


def put(*rows):
    return tuple(("put", key, worth) for key, worth in rows)


def drop(*keys):
    return tuple(("drop", key) for key in keys)


def state(house):
    """All that is told of a house, as written."""
    kept = house.entries(house.places()[0], many=400)
    return repr([getattr(house, name)() for name in TOLD] + [kept])


class HouseCase(unittest.TestCase):
    def refused(self, house, told, name, *args, **named):
        """The refusal and its fields, and that nothing is changed by it."""
        ahead = state(house)
        self.assertEqual(outcome(getattr(house, name), *args, **named), told, (name, args, named))
        self.assertEqual(state(house), ahead)


class Tables(HouseCase):
    def test_made_of_nothing(self):
        for house in (House(), House(()), House(table=())):
            self.assertEqual(state(house), repr([(), (0, 0), [], [], []]))

    def test_made_of_a_table(self):
        full = tuple((key, key) for key in range(100))
        for table in (TABLE, full, ((0, 0),), ((999, 999),)):
            house = House(table)
            self.assertEqual(state(house), repr([table, (0, 0), [], [], []]))
            self.assertEqual(House(table=table).table(), table)

    def test_made_of_anything(self):
        for thing in [*ANYTHING, *spoiled(TABLE), tuple((key, 0) for key in range(101))]:
            told = outcome(House, thing)
            if is_table(thing):
                self.assertEqual(House(thing).table(), thing)
            else:
                self.assertEqual(told, ("NoTable", {}), thing)

    def test_groups_are_done_one_change_behind_the_other(self):
        house = House(TABLE)
        self.assertIs(house.change(put((2, 1), (4, 9)) + drop(0)), None)
        self.assertEqual(house.table(), ((2, 1), (4, 9), (7, 7), (999, 8)))
        self.assertIs(house.change(changes=put((2, 3)) + drop(2) + put((2, 4), (2, 5))), None)
        self.assertEqual(house.table(), ((2, 5), (4, 9), (7, 7), (999, 8)))
        house.change(drop(2, 2, 600, 999))
        self.assertEqual(house.table(), ((4, 9), (7, 7)))
        house.change(drop(4) + put((4, 0)) + drop(7, 4))
        self.assertEqual(house.table(), ())
        self.assertEqual(house.places(), (0, 4))
        self.assertEqual(house.entries(1, many=1), [("group", put((2, 3)) + drop(2) + put((2, 4), (2, 5)))])

    def test_no_change_of_anything(self):
        good = put((3, 1)) + drop(4)
        house = House(TABLE)
        for thing in [*ANYTHING, *spoiled(good), good * 4, list(good)]:
            if is_entry(("group", thing)):
                self.assertIs(House(TABLE).change(thing), None)
            else:
                self.refused(house, ("NoChange", {}), "change", thing)

    def test_too_many_rows_of_all_together(self):
        house = House(tuple((key, 0) for key in range(99)))
        self.refused(house, ("TooMany", {"many": 101}), "change", put((500, 1), (501, 1)))
        self.refused(house, ("TooMany", {"many": 105}), "change", put(*((key, 1) for key in range(500, 506))))
        self.refused(house, ("TooMany", {"many": 101}), "change", put((500, 1), (501, 1), (500, 2)) + drop(700))
        house.change(put((500, 1)))
        self.assertEqual(len(house.table()), 100)
        self.refused(house, ("TooMany", {"many": 101}), "change", put((501, 1)))
        house.change(put((500, 2), (0, 1)))
        house.change(put((501, 1), (502, 1)) + drop(0, 1))
        house.change(drop(501) + put((0, 1)))
        self.assertEqual((len(house.table()), house.places()), (100, (0, 4)))
        self.refused(house, ("NoChange", {}), "change", put((1000, 1), (501, 1)))

    def test_a_table_told_is_new(self):
        house = House(TABLE)
        once = house.table()
        house.change(put((1, 1)))
        self.assertEqual(once, TABLE)


class Lives(HouseCase):
    def test_on_and_on(self):
        house = House()
        self.assertEqual([house.life() for at in range(3)], [1, 2, 3])
        house.leave(3)
        house.leave(life=1)
        self.assertEqual([house.life() for at in range(200)], list(range(4, 204)))
        self.assertEqual(House().life(), 1)

    def test_no_life(self):
        house = House(TABLE)
        house.life()
        house.life()
        house.leave(1)
        for life in (1, 0, -1, 3, HUGE, -HUGE):
            who = ("NoLife", {"who": life})
            for ask in (("leave",), ("hold", 0), ("hold", -1), ("hold", 9), ("begin", 0, 1), ("begin", 1, 1)):
                self.refused(house, who, ask[0], life, *ask[1:])
        self.assertEqual(house.life(), 3)

    def test_holding(self):
        house = House(TABLE)
        for at in range(4):
            house.life()
            house.change(put((at, at)))
        self.assertEqual(house.holds(), [])
        self.assertIs(house.hold(3, 4), None)
        self.assertIs(house.hold(place=0, life=1), None)
        house.hold(2, 2)
        self.assertEqual(house.holds(), [(1, 0), (2, 2), (3, 4)])
        house.hold(3, 1)
        house.hold(1, 3)
        self.assertEqual(house.holds(), [(1, 3), (2, 2), (3, 1)])
        for place in (-1, 5, HUGE, -HUGE):
            self.refused(house, ("NoPlace", {"at": place}), "hold", 1, place)
        house.leave(2)
        self.assertEqual(house.holds(), [(1, 3), (3, 1)])
        house.trim(1)
        for place in (0, -1, 5):
            self.refused(house, ("NoPlace", {"at": place}), "hold", 1, place)
        house.hold(1, 1)
        house.hold(4, 4)
        self.assertEqual(house.holds(), [(1, 1), (3, 1), (4, 4)])

    def test_readings_of_a_life_that_leaves_are_stopped(self):
        house = House(TABLE)
        for life in (house.life(), house.life(), 1, 2, 1):
            house.begin(life, 0, 1000)
        house.look(0)
        house.look(2, many=1)
        house.hold(1, 3)
        self.assertIs(house.leave(1), None)
        self.assertEqual(house.readings(), [(1, 2, (0, 1000), (), False), (3, 2, (0, 1000), (), False)])
        for number in (0, 2, 4):
            for name in ("look", "finish", "stop"):
                self.refused(house, ("NoReading", {"number": number}), name, number)
        self.assertEqual((house.places(), house.holds()), ((0, 5), []))
        self.assertEqual(house.begin(2, 0, 1), 5)


class Readings(HouseCase):
    def house(self):
        house = House(TABLE)
        house.life()
        return house

    def test_begin(self):
        house = self.house()
        house.life()
        self.assertEqual([house.begin(1, 0, 1000), house.begin(2, 3, 4), house.begin(last=1, first=0, life=1)], [0, 1, 2])
        self.assertEqual(house.entries(0), [("low", 1, 0), ("low", 2, 1), ("low", 1, 2)])
        self.assertEqual(repr(house.readings()), repr(
            [(0, 1, (0, 1000), (), False), (1, 2, (3, 4), (), False), (2, 1, (0, 1), (), False)]))
        self.assertEqual(house.begin(1, 999, 1000), 3)

    def test_stretches_that_are_none(self):
        house = self.house()
        for first, last in ((0, 0), (-1, 5), (5, 5), (6, 5), (0, 1001), (1000, 1000), (999, 1001), (-2, -1), (1000, 1001),
                            (0, HUGE), (-HUGE, 0), (HUGE, -HUGE), (HUGE, HUGE + 1)):
            self.refused(house, ("NoStretch", {}), "begin", 1, first, last)
            self.refused(house, ("NoLife", {"who": 2}), "begin", 2, first, last)
        self.assertEqual(house.begin(1, 0, 1), 0)

    def test_so_many_looks(self):
        self.assertEqual(FEW, 5)
        rows = tuple((key, 1) for key in range(60))
        for many in range(51):
            house = House(rows)
            house.life()
            house.begin(1, 0, 1000)
            self.assertEqual(house.look(0, many=many), rows[:many])
            self.assertEqual(house.readings(), [(0, 1, (0, 1000), rows[:many], False)])
            self.assertEqual(house.look(0), rows[many:many + 5])
            self.assertEqual(house.look(many=0, number=0), ())
            self.assertEqual(house.look(0, many=50), rows[many + 5:many + 55])

    def test_the_end_is_a_look_of_its_own(self):
        house = self.house()
        house.begin(1, 0, 1000)
        self.assertEqual(house.look(0, many=4), TABLE)
        self.assertIs(house.readings()[0][4], False)
        self.refused(house, ("NotEnded", {}), "finish", 0)
        self.assertEqual(house.look(0, many=0), ())
        self.refused(house, ("NotEnded", {}), "finish", 0)
        self.assertEqual(house.look(0, many=1), ())
        self.assertEqual(repr(house.readings()), repr([(0, 1, (0, 1000), TABLE, True)]))
        for many in (0, 1, 5, 50):
            self.refused(house, ("Ended", {}), "look", 0, many=many)
        house.change(put((1000 - 1, 1)))
        self.refused(house, ("Ended", {}), "look", 0)
        self.assertEqual(house.finish(number=0), TABLE)
        for name in ("look", "finish", "stop"):
            self.refused(house, ("NoReading", {"number": 0}), name, 0)
        self.assertEqual(house.entries(0), [("low", 1, 0), ("group", put((999, 1))), ("high", 1, 0)])

    def test_rows_and_the_end_in_one_go(self):
        house = self.house()
        house.begin(1, 1, 999)
        self.assertEqual(house.look(0), ((4, 6), (7, 7)))
        self.assertEqual(house.finish(0), ((4, 6), (7, 7)))
        house.begin(1, 8, 999)
        self.assertEqual((house.look(1), house.finish(1)), ((), ()))
        house.begin(1, 4, 7)
        self.assertEqual((house.look(2), house.finish(2)), (((4, 6),), ((4, 6),)))

    def test_looks_with_changes_between_them(self):
        house = self.house()
        house.begin(1, 0, 1000)
        self.assertEqual(house.look(0, many=1), ((0, 5),))
        house.change(put((0, 1), (2, 2)))
        self.assertEqual(house.look(0, many=1), ((2, 2),))
        house.change(put((1, 1), (2, 9)) + drop(4))
        self.assertEqual(house.look(0, many=1), ((7, 7),))
        house.change(put((4, 4)) + drop(999))
        self.assertEqual(house.look(0, many=1), ())
        house.change(put((999, 1)))
        self.assertEqual(house.finish(0), ((0, 5), (2, 2), (7, 7)))

    def test_more_rows_than_a_table_has(self):
        house = House(tuple((key, 0) for key in range(100)))
        house.life()
        house.begin(1, 0, 1000)
        for at in range(0, 100, 5):
            self.assertEqual(house.look(0), tuple((key, 0) for key in range(at, at + 5)))
            house.change(drop(*range(at, at + 5)))
            house.change(put(*((500 + key, 1) for key in range(at, at + 5))))
        for at in range(2):
            self.assertEqual(len(house.look(0, many=50)), 50)
        house.look(0)
        self.assertEqual(len(house.finish(0)), 200)

    def test_no_reading(self):
        house = self.house()
        house.begin(1, 0, 1000)
        house.begin(1, 0, 1000)
        house.stop(1)
        for number in (1, 2, -1, -2, HUGE, -HUGE):
            for name in ("look", "finish", "stop"):
                self.refused(house, ("NoReading", {"number": number}), name, number)
            self.refused(house, ("NoReading", {"number": number}), "look", number, many=0)

    def test_stop(self):
        house = self.house()
        for at in range(3):
            house.begin(1, 0, 1000)
        house.look(1)
        self.assertIs(house.stop(1), None)
        self.assertIs(house.stop(number=0), None)
        self.assertEqual(house.readings(), [(2, 1, (0, 1000), (), False)])
        self.assertEqual(house.places(), (0, 3))
        self.assertEqual(house.begin(1, 0, 1), 3)

    def test_several_at_once(self):
        house = self.house()
        house.life()
        house.begin(1, 0, 5)
        house.begin(2, 0, 1000)
        self.assertEqual(house.look(1, many=2), ((0, 5), (4, 6)))
        house.change(drop(0) + put((7, 0)))
        self.assertEqual(house.look(0, many=1), ((4, 6),))
        self.assertEqual(house.look(1, many=5), ((7, 0), (999, 8)))
        self.assertEqual(house.finish(1), ((0, 5), (4, 6), (7, 0), (999, 8)))
        self.assertEqual(house.readings(), [(0, 1, (0, 5), ((4, 6),), False)])
        self.assertEqual(house.look(0, many=1), ())
        self.assertEqual(house.finish(0), ((4, 6),))
        self.assertEqual(house.entries(3), [("high", 2, 1), ("high", 1, 0)])


class Logs(HouseCase):
    def house(self, many):
        house = House(TABLE)
        house.life()
        for at in range(many):
            house.change(put((1, at % 1000)))
        return house

    def test_entries_from_each_place(self):
        house = self.house(12)
        log = [("group", put((1, at))) for at in range(12)]
        for place in range(13):
            self.assertEqual(house.entries(place), log[place:place + 5])
            for many in (0, 1, 5, 12, 400):
                self.assertEqual(house.entries(place, many=many), log[place:place + many])
        self.assertEqual(house.entries(many=2, place=3), log[3:5])
        for place in (13, HUGE):
            for many in (0, 5):
                self.refused(house, ("NoPlace", {"at": place}), "entries", place, many=many)
        for place in (-1, -12, -HUGE):
            self.refused(house, ("Trimmed", {"at": 0}), "entries", place)

    def test_entries_of_a_trimmed_log(self):
        house = self.house(12)
        log = house.entries(0, many=400)
        self.assertIs(house.trim(7), None)
        self.assertEqual(house.places(), (7, 12))
        for place in range(7, 13):
            for many in (0, 1, 3, 400):
                self.assertEqual(house.entries(place, many=many), log[place:place + many])
        for place in (6, 0, -1, -HUGE):
            for many in (0, 5):
                self.refused(house, ("Trimmed", {"at": 7}), "entries", place, many=many)
        self.refused(house, ("NoPlace", {"at": 13}), "entries", 13)
        house.trim(place=12)
        self.assertEqual((house.places(), house.entries(12)), ((12, 12), []))
        self.refused(house, ("Trimmed", {"at": 12}), "entries", 11)
        house.change(put((2, 2)))
        self.assertEqual((house.places(), house.entries(12)), ((12, 13), [("group", put((2, 2)))]))
        self.assertEqual(house.table(), ((0, 5), (1, 11), (2, 2)) + TABLE[1:])

    def test_four_hundred_entries(self):
        house = self.house(450)
        self.assertEqual(house.entries(0, many=400), [("group", put((1, at))) for at in range(400)])
        self.assertEqual(house.entries(100, many=400), [("group", put((1, at))) for at in range(100, 450)])
        self.assertEqual(house.places(), (0, 450))

    def test_trim_is_refused(self):
        house = self.house(6)
        for at in range(3):
            house.life()
        house.trim(1)
        house.hold(4, 2)
        house.hold(3, 4)
        house.hold(2, 3)
        for place in (0, -1, 7, HUGE, -HUGE):
            self.refused(house, ("NoPlace", {"at": place}), "trim", place)
        for place, who in ((3, 4), (4, 2), (5, 2), (6, 2)):
            self.refused(house, ("Held", {"who": who}), "trim", place)
        house.trim(1)
        house.trim(2)
        self.assertEqual(house.places(), (2, 6))
        house.leave(4)
        house.trim(3)
        self.refused(house, ("Held", {"who": 2}), "trim", 4)
        house.hold(2, 6)
        house.trim(4)
        self.refused(house, ("Held", {"who": 3}), "trim", 5)
        self.assertEqual(house.holds(), [(2, 6), (3, 4)])

    def test_a_reading_goes_on_behind_a_trim(self):
        house = self.house(3)
        house.begin(1, 0, 5)
        self.assertEqual(house.look(0, many=1), ((0, 5),))
        house.trim(4)
        self.assertEqual(house.look(0), ((1, 2), (4, 6)))
        house.finish(0)
        self.assertEqual((house.places(), house.entries(4)), ((4, 5), [("high", 1, 0)]))

    def test_lists_are_the_askers_own(self):
        house = self.house(3)
        house.begin(1, 0, 5)
        house.look(0)
        house.hold(1, 2)
        ahead = state(house)
        for ask in (house.holds, house.readings, lambda: house.entries(0), lambda: house.entries(4)):
            told = ask()
            ahead_of_it = list(told)
            other = ask()
            other.append("more")
            other.reverse()
            self.assertEqual(told, ahead_of_it)
            self.assertEqual(ask(), told)
        self.assertEqual(state(house), ahead)
        told = [copy.deepcopy(house.readings()), house.readings(), house.holds(), house.entries(0, many=400)]
        written = repr(told)
        house.finish(0)
        house.leave(1)
        house.trim(3)
        self.assertEqual(repr(told), written)

    def test_two_houses_share_nothing(self):
        one, other = House(TABLE), House(TABLE)
        one.life()
        one.begin(1, 0, 9)
        one.change(put((1, 1)))
        self.assertEqual(state(other), state(House(TABLE)))
        self.assertEqual(outcome(other.leave, 1), ("NoLife", {"who": 1}))


def some_changes(chance):
    changes = ()
    for at in range(chance.randint(1, 6)):
        key = chance.choice(KEYS)
        changes += drop(key) if chance.randrange(3) == 0 else put((key, chance.randrange(1000)))
    return chance.choice(((), changes * 7, list(changes), put((1000, 0)))) if chance.randrange(9) == 0 else changes


def some_step(chance, house):
    """The name, arguments and named arguments of something to be done to the house, now and then refused."""
    life = chance.randint(0, house.given + 1)
    place = chance.randint(house.kept - 1, len(house.log) + 1)
    number = chance.randint(max(-1, len(house.reads) - 4), len(house.reads))
    first, last = sorted((chance.choice((0, 1, 4, 998)), chance.choice((0, 3, 6, 999, 1000, 1001))))
    named = chance.choice(({}, {"many": chance.randint(0, 4)}))
    return chance.choice((
        ("change", (some_changes(chance),), {}), ("change", (some_changes(chance),), {}), ("life", (), {}),
        ("begin", (life, first, last), {}), ("begin", (house.given, 0, 1000), {}), ("look", (number,), named),
        ("look", (number,), named), ("look", (number,), named), ("finish", (number,), {}), ("finish", (number,), {}),
        ("stop", (number,), {}) if chance.randrange(4) == 0 else ("look", (number,), named),
        ("hold", (life, place), {}), ("leave", (life,), {}) if chance.randrange(4) == 0 else ("finish", (number,), {}),
        ("trim", (place,), {}), ("entries", (place,), named)))


class Woven(HouseCase):
    def test_against_a_plain_model(self):
        chance = random.Random(21)
        seen = set()
        for run in range(40):
            table = tuple((key, chance.randrange(1000)) for key in KEYS if chance.randrange(2))
            house, model = House(table), ModelHouse(table)
            for at in range(80):
                name, args, named = some_step(chance, model)
                ahead = state(house)
                told = outcome(getattr(house, name), *args, **named)
                self.assertEqual(told, outcome(getattr(model, name), *args, **named), (name, args, named))
                self.assertEqual(state(house), state(model))
                if isinstance(told, tuple):
                    seen.add(told[0])
                    self.assertEqual(state(house), ahead)
        self.assertEqual(seen, {"NoChange", "NoLife", "NoStretch", "NoReading", "Ended", "NotEnded", "NoPlace", "Held",
                                "Trimmed"})

    def test_the_whole_log_tells_the_table_and_when_each_reading_was_read(self):
        chance = random.Random(22)
        many = 0
        for run in range(60):
            table = tuple((key, chance.randrange(3)) for key in range(12) if chance.randrange(2))
            house = House(table)
            house.life()
            finished = {}
            for at in range(150):
                many_begun = house.readings()
                if chance.randrange(3) == 0:
                    house.change(tuple(chance.choice((("drop", chance.randrange(12)), ("put", chance.randrange(12), at)))
                                       for change in range(chance.randint(1, 3))))
                elif len(many_begun) < 3:
                    first, last = sorted(chance.sample((0, 2, 5, 9, 12, 1000), 2))
                    house.begin(1, first, last)
                else:
                    number, life, stretch, rows, ended = chance.choice(many_begun)
                    if ended:
                        finished[number] = (stretch, house.finish(number))
                    else:
                        house.look(number, many=chance.randint(0, 2))
            self.check(house, table, finished)
            many += len(finished)
        self.assertGreater(many, 300)

    def check(self, house, table, finished):
        log = house.entries(0, many=400)
        self.assertTrue(is_log(log))
        self.assertEqual(len(log), house.places()[1])
        self.assertEqual(house.table(), table_at(table, log, len(log)))
        self.assertEqual(house.table(), model_table_at(table, log, len(log)))
        for number, (stretch, rows) in finished.items():
            low, high = log.index(("low", 1, number)) + 1, log.index(("high", 1, number))
            self.assertIsNot(moments(table, log, low, high, stretch, rows), None)

    def test_it_is_defined_in_house(self):
        self.assertEqual(House.__module__, "tidecopy.house")
        self.assertIs(module.House, House)
        for name in ("change life begin look finish stop hold leave trim table places entries holds readings").split():
            self.assertIn(name, vars(House))
        house = House(TABLE)
        house.life()
        house.begin(1, 0, 5)
        house.change(put((1, 1)))
        self.assertRaises(TypeError, house.look, 0, 5)
        self.assertRaises(TypeError, house.entries, 0, 5)


if __name__ == "__main__":
    unittest.main()
