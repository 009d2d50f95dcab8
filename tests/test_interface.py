"""The interface as a whole: names, arguments, lists that are told and handed in, and the bounds of point 2."""

import importlib
import inspect
import unittest

from tests.model_hall import hall_state
from tests.models import outcome
from tidecopy.desk import Desk
from tidecopy.events import first_wrong
from tidecopy.hall import Hall
from tidecopy.house import House
from tidecopy.joining import joined
from tidecopy.readings import moments, odd, read_by
from tidecopy.tables import changed, is_entry, is_log, is_table, table_at
from tidecopy.takers import Taker
from tidecopy.texts import read_steps, steps_text

HUGE = 10 ** 40 - 1
FUNCTIONS = {
    "tables": ("is_table(thing)", "is_entry(thing)", "is_log(thing)", "table_at(table, log, place)", "changed(log, low, high)"),
    "readings": ("read_by(table, log, stretch, moments)", "moments(table, log, low, high, stretch, rows)",
                 "odd(table, log, low, high, stretch, rows)"),
    "joining": ("joined(log, pieces, place, *, start=0)",),
    "events": ("first_wrong(table, log, events, *, start=0)",),
    "texts": ("table_text(table)", "step_text(step)", "steps_text(steps)", "read_table(text)", "read_step(text)",
              "read_steps(text)"),
}
CLASSES = {
    "house.House": ("__init__(self, table=())", "change(self, changes)", "life(self)", "begin(self, life, first, last)",
                    "look(self, number, *, many=5)", "finish(self, number)", "stop(self, number)", "hold(self, life, place)",
                    "leave(self, life)", "trim(self, place)", "table(self)", "places(self)", "entries(self, place, *, many=5)",
                    "holds(self)", "readings(self)"),
    "takers.Taker": ("__init__(self, life, *, place=0, saved=None)", "take(self, entry)", "ask(self, number, first, last)",
                     "answer(self, number, rows)", "give_up(self, number)", "life(self)", "place(self)", "rows(self)",
                     "sure(self)", "worth(self, key)", "events(self)", "asked(self)", "saved(self)", "__len__(self)",
                     "__eq__(self, other)"),
    "hall.Hall": ("__init__(self, table=(), *, most=300)", "join(self, name)", "fall(self, name)", "save(self, name)",
                  "change(self, changes)", "ask(self, name, first, last)", "look(self, number, *, many=5)",
                  "finish(self, number)", "stop(self, number)", "deliver(self, number)", "lose(self, number)",
                  "take(self, name, *, many=1)", "give_up(self, name, number)", "trim(self)", "do(self, step)",
                  "together(self, steps)", "take_back(self)", "table(self)", "places(self)", "names(self)", "place(self, name)",
                  "rows(self, name)", "sure(self, name)", "events(self, name)", "asked(self, name)", "saved(self, name)",
                  "entries(self, place, *, many=5)", "holds(self)", "readings(self)", "wire(self)", "is_whole(self, name)",
                  "__len__(self)", "__eq__(self, other)"),
    "desk.Desk": ("__init__(self, text, *, most=300)", "say(self, row)"),
}
VALUES = {"tables.KEYS": 1000, "house.FEW": 5, "hall.MOST": 300}
TABLE = ((0, 5), (4, 6), (999, 7))
LOG = [("group", (("put", 2, 8),)), ("low", 1, 0), ("group", (("drop", 4),)), ("high", 1, 0)]
ROWS = ((0, 5), (2, 8), (999, 7))


class Names(unittest.TestCase):
    def test_functions(self):
        for name, told in FUNCTIONS.items():
            module = importlib.import_module("tidecopy." + name)
            for row in told:
                function = getattr(module, row.partition("(")[0])
                self.assertEqual((function.__name__ + str(inspect.signature(function)), function.__module__),
                                 (row, module.__name__))

    def test_methods_are_of_the_class_itself(self):
        for name, told in CLASSES.items():
            file, kind = name.split(".")
            found = getattr(importlib.import_module("tidecopy." + file), kind)
            self.assertEqual(found.__module__, "tidecopy." + file)
            for row in told:
                method = vars(found)[row.partition("(")[0]]
                self.assertEqual(method.__name__ + str(inspect.signature(method)), row)

    def test_values(self):
        for name, worth in VALUES.items():
            file, value = name.split(".")
            self.assertEqual(getattr(importlib.import_module("tidecopy." + file), value), worth)

    def test_functions_called_by_names_in_another_order(self):
        self.assertEqual(table_at(place=1, log=LOG, table=TABLE), ((0, 5), (2, 8), (4, 6), (999, 7)))
        self.assertEqual(changed(high=3, low=1, log=LOG), [4])
        self.assertEqual(read_by(moments=(0, 1, 3, 3), stretch=(0, 1000), log=LOG, table=TABLE), ROWS)
        asked = {"rows": ROWS, "stretch": (0, 1000), "high": 4, "low": 0, "log": LOG, "table": TABLE}
        self.assertEqual((moments(**asked), odd(**asked)), ((0, 1, 3, 3), None))
        self.assertEqual(joined(start=2, place=4, pieces=[(2, 4, (0, 5), ((0, 5),))], log=LOG), (((0, 5),), ((5, 1000),)))
        self.assertEqual(first_wrong(start=2, events=[(3, "drop", 4, None)], log=LOG, table=TABLE), None)

    def test_methods_called_by_names_in_another_order(self):
        house = House(table=TABLE)
        self.assertEqual((house.life(), house.begin(last=9, first=0, life=1), house.hold(place=1, life=1)), (1, 0, None))
        self.assertEqual((house.look(many=1, number=0), house.entries(many=1, place=0)), (((0, 5),), [("low", 1, 0)]))
        taker = Taker(saved=None, place=3, life=1)
        self.assertEqual((taker.ask(last=9, first=0, number=0), taker.answer(rows=(), number=0)), (None, None))
        hall = Hall(most=20, table=TABLE)
        self.assertEqual((hall.join(name="ann"), hall.ask(last=9, first=0, name="ann")), (None, 0))
        self.assertEqual((hall.look(many=9, number=0), hall.finish(number=0)), (TABLE[:2], TABLE[:2]))
        self.assertEqual((hall.deliver(number=0), hall.take(many=9, name="ann")), (None, 2))
        self.assertEqual((hall.ask(first=0, name="ann", last=1), hall.give_up(number=1, name="ann")), (1, None))
        self.assertEqual((hall.stop(number=1), hall.save(name="ann"), hall.fall(name="ann")), (None, None, None))
        self.assertEqual((hall.change(changes=(("drop", 0),)), hall.do(step=("trim",))), (None, 2))
        self.assertEqual((hall.together(steps=[]), hall.entries(many=9, place=2)), ([], [("low", 1, 1), ("group", (("drop", 0),))]))
        self.assertEqual((hall.place(name="ann"), hall.rows(name="ann"), hall.sure(name="ann")), (2, TABLE[:2], ((0, 9),)))
        self.assertEqual((hall.events(name="ann"), hall.asked(name="ann"), hall.is_whole(name="ann")), ([], [], False))
        self.assertEqual(hall.saved(name="ann"), (2, TABLE[:2], ((0, 9),)))
        self.assertEqual(outcome(hall.lose, number=0), ("NotOnWire", {"number": 0}))
        self.assertEqual(Desk(most=1, text="none").say(row="trim"), "0")


class Lists(unittest.TestCase):
    def test_lists_told_by_functions(self):
        for ask in (lambda: changed(LOG, 0, 4), lambda: read_steps("trim\njoin ann")):
            told, other = ask(), ask()
            told.append(1)
            told.reverse()
            self.assertEqual(ask(), other)

    def test_lists_handed_in_are_not_changed(self):
        log, pieces, events = list(LOG), [(2, 4, (0, 5), ((0, 5),))], [(1, "put", 2, 8), (3, "drop", 4, None)]
        steps = [("join", "ann"), ("trim",)]
        handed = repr([log, pieces, events, steps])
        for at in range(2):
            is_log(log)
            table_at(TABLE, log, 4)
            changed(log, 0, 4)
            read_by(TABLE, log, (0, 1000), (0, 1, 3, 3))
            moments(TABLE, log, 0, 4, (0, 1000), ROWS)
            odd(TABLE, log, 0, 4, (0, 1000), ROWS[:1])
            joined(log, pieces, 4, start=2)
            first_wrong(TABLE, log, events)
            steps_text(steps)
            Hall().together(steps)
            self.assertEqual(repr([log, pieces, events, steps]), handed)

    def test_a_list_handed_in_and_changed_behind_the_call(self):
        hall, steps = Hall(TABLE), [("join", "ann"), ("change", (("put", 1, 1),))]
        told = hall.together(steps)
        before = hall_state(hall)
        steps.clear()
        told.clear()
        self.assertEqual(hall_state(hall), before)
        hall.join("bob")
        hall.take_back()
        self.assertEqual(hall_state(hall), before)


class Bounds(unittest.TestCase):
    def test_tables_and_groups(self):
        table = tuple((key, 999 - key) for key in (*range(50), *range(950, 1000)))
        six = tuple(("put", key, 999) for key in (0, 1, 2, 997, 998, 999))
        log = [("group", six)] * 400
        self.assertTrue(is_table(table) and is_log(log) and is_entry(log[0]))
        self.assertFalse(is_table((*table[:50], (500, 0), *table[50:])) or is_log(log * 2) or is_entry(("group", (*six, six[0]))))
        self.assertEqual(dict(table_at(table, log, 400)), {**dict(table), **dict(change[1:] for change in six)})
        hall = Hall(table)
        hall.change(six)
        self.assertEqual((len(hall), hall.table()), (100, table_at(table, log, 1)))

    def test_stretches(self):
        for first, last, rows in ((0, 1, ((0, 5),)), (999, 1000, ((999, 7),)), (0, 1000, TABLE), (1, 999, ((4, 6),)), (5, 6, ())):
            hall = Hall(TABLE)
            hall.join("ann")
            hall.ask("ann", first, last)
            self.assertEqual((hall.look(0, many=50), hall.finish(0), hall.deliver(0)), (rows, rows, None))
            self.assertEqual((hall.take("ann", many=50), hall.sure("ann"), hall.rows("ann")), (2, ((first, last),), rows))
            self.assertIs(hall.is_whole("ann"), (first, last) == (0, 1000))
            self.assertEqual(read_by(TABLE, [], (first, last), (0,) * (len(rows) + 1)), rows)

    def test_numbers_and_lives_of_forty_figures(self):
        taker = Taker(HUGE, place=HUGE)
        taker.ask(HUGE, 0, 1000)
        taker.take(("low", HUGE, HUGE))
        self.assertEqual(outcome(taker.take, ("high", HUGE, HUGE)), ("Waits", {"number": HUGE}))
        taker.answer(HUGE, TABLE)
        taker.take(("high", HUGE, HUGE))
        self.assertEqual((taker.life(), taker.place(), taker.rows(), taker.sure()), (HUGE, HUGE + 2, TABLE, ((0, 1000),)))
        self.assertTrue(is_entry(("low", HUGE, HUGE)))
        self.assertEqual(outcome(table_at, TABLE, LOG, HUGE), ("NoPlace", {"at": HUGE}))
        self.assertEqual(first_wrong(TABLE, LOG, [(HUGE, "copy", 0, 5)]), 0)
        hall = Hall(TABLE)
        for ask in (hall.entries, hall.look, hall.stop, hall.finish, hall.deliver, hall.lose):
            self.assertEqual([*outcome(ask, HUGE)[1].values()], [HUGE])

    def test_a_hundred_takers(self):
        names = [first + last for first in "abcdefghij" for last in "zyxwvutsrq"]
        hall = Hall(TABLE, most=2)
        hall.together([("join", name) for name in names])
        self.assertEqual(hall.names(), sorted(names))
        self.assertEqual(hall.holds(), [(life, 0) for life in range(1, 101)])
        self.assertEqual(hall.together([("ask", name, 0, 1000) for name in names]), list(range(100)))


if __name__ == "__main__":
    unittest.main()
