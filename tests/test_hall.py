"""Points 2, 14 and 15: the hall, step by step."""

import unittest

from tests.model_hall import OF_TAKER, hall_state
from tests.models import outcome
from tests.things import ANYTHING, spoiled
from tidecopy import hall as module
from tidecopy.hall import MOST, Hall
from tidecopy.house import FEW
from tidecopy.tables import is_entry, is_table

ALL = (0, 1000)
HUGE = 10 ** 40 - 1
TABLE = ((0, 5), (4, 6), (7, 7), (999, 8))
PUT = (("put", 4, 9), ("put", 20, 1))
NO_NAMES = ("", "A", "anN", "a b", " a", "a ", "a\n", "a1", "1", "a-b", "abcdefghi", "a" * 9, "a" * 10000, "~", "`", "{")
NO_STRETCHES = ((0, 0), (-1, 5), (5, 5), (6, 5), (0, 1001), (1000, 1000), (999, 1001), (-2, -1), (0, HUGE), (-HUGE, 0),
                (HUGE, -HUGE))
# Of each step: the method, the arguments by their names.
METHODS = {
    "join": ("join", ("name",)), "fall": ("fall", ("name",)), "save": ("save", ("name",)),
    "change": ("change", ("changes",)), "ask": ("ask", ("name", "first", "last")), "look": ("look", ("number", "many")),
    "finish": ("finish", ("number",)), "stop": ("stop", ("number",)), "deliver": ("deliver", ("number",)),
    "lose": ("lose", ("number",)), "take": ("take", ("name", "many")), "yield": ("give_up", ("name", "number")),
    "trim": ("trim", ()),
}


def by_do(hall, step):
    return hall.do(step)


def by_method(hall, step):
    """The method of a step, its arguments by their names, those told last first."""
    name, parts = METHODS[step[0]]
    return getattr(hall, name)(**dict(reversed(list(zip(parts, step[1:])))))


def by_places(hall, step):
    """The method of a step, its arguments by their places but for those behind a star."""
    name, parts = METHODS[step[0]]
    named = {part: worth for part, worth in zip(parts, step[1:]) if part == "many"}
    return getattr(hall, name)(*step[1:len(step) - len(named)], **named)


def by_together(hall, step):
    return hall.together([step])[0]


WAYS = (by_do, by_method, by_places, by_together)


def with_steps(*steps, table=TABLE, most=MOST, way=by_do):
    hall = Hall(table, most=most)
    for step in steps:
        way(hall, step)
    return hall


# A taker that asks for all keys, read among changes, and finished.
READ = (("join", "ann"), ("ask", "ann", 0, 1000), ("look", 0, 2), ("change", PUT), ("look", 0, 50), ("finish", 0))


class HallCase(unittest.TestCase):
    def does(self, told, step, *ahead, table=TABLE, most=MOST):
        """What a step tells behind others, by each way; told is the hall that comes of it."""
        for way in WAYS:
            hall = with_steps(*ahead, table=table, most=most)
            before = hall_state(hall)
            self.assertEqual(repr(way(hall, step)), repr(told), (way, step))
            self.assertIs(hall.busy, False)
            behind = hall_state(hall)
            hall.take_back()
            self.assertEqual(hall_state(hall), before)
            self.assertEqual(way(hall, step), told)
            self.assertEqual(hall_state(hall), behind)
        return hall

    def refuses(self, told, step, *ahead, table=TABLE, most=MOST):
        """The refusal of a step and its fields, by each way, and that nothing is changed by it."""
        hall = with_steps(*ahead, table=table, most=most)
        before, other = hall_state(hall), with_steps(*ahead, table=table, most=most)
        for way in WAYS:
            self.assertEqual(outcome(way, hall, step), told, (way, step))
            self.assertIs(hall.busy, False)
            self.assertEqual(hall_state(hall), before)
            self.assertEqual(hall, other)


class Making(HallCase):
    def test_of_nothing(self):
        self.assertEqual(MOST, 300)
        for hall in (Hall(), Hall(()), Hall(table=()), Hall(most=1), Hall((), most=300), Hall(most=5, table=())):
            self.assertEqual(hall_state(hall), repr([[(), (0, 0), [], [], [], []], [], [], 0, False]))

    def test_of_a_table(self):
        full = tuple((key, 999 - key) for key in range(100))
        for table in (TABLE, full, ((0, 0),), ((999, 999),)):
            hall = Hall(table)
            self.assertEqual((hall.table(), len(hall), hall.places(), hall.names()), (table, len(table), (0, 0), []))

    def test_of_anything(self):
        for thing in [*ANYTHING, *spoiled(TABLE), tuple((key, 0) for key in range(101))]:
            if is_table(thing):
                self.assertEqual(Hall(thing).table(), thing)
            else:
                self.assertEqual(outcome(Hall, thing), ("NoTable", {}), thing)

    def test_it_is_defined_in_hall(self):
        self.assertEqual(Hall.__module__, "tidecopy.hall")
        self.assertIs(module.Hall, Hall)
        for name in ("join fall save change ask look finish stop deliver lose take give_up trim do together take_back "
                     "table places names place rows sure events asked saved entries holds readings wire is_whole "
                     "__len__ __eq__").split():
            self.assertIn(name, vars(Hall))
        self.assertRaises(TypeError, Hall, (), 5)
        hall = with_steps(*READ)
        self.assertRaises(TypeError, hall.look, 0, 5)
        self.assertRaises(TypeError, hall.take, "ann", 5)
        self.assertRaises(TypeError, hall.entries, 0, 5)


class Takers(HallCase):
    def test_join(self):
        hall = self.does(None, ("join", "ann"))
        self.assertEqual((hall.names(), hall.holds()), (["ann"], [(1, 0)]))
        self.assertEqual([getattr(hall, ask)("ann") for ask in OF_TAKER], [0, (), (), [], [], (0, (), ()), False])
        hall = self.does(None, ("join", "abcdefgh"), ("join", "z"), ("change", PUT), ("join", "join"), ("change", PUT))
        self.assertEqual((hall.names(), hall.holds()), (["abcdefgh", "join", "z"], [(1, 0), (2, 1), (3, 2)]))
        self.assertEqual((hall.place("abcdefgh"), hall.saved("abcdefgh"), hall.saved("join")),
                         (2, (2, (), ()), (1, (), ())))
        hall = self.does(None, ("join", "a"), ("change", PUT), ("trim",))
        self.assertEqual((hall.place("a"), hall.holds(), hall.places()), (1, [(1, 1)], (1, 1)))

    def test_no_name_of_anything_then_twice(self):
        for thing in [*NO_NAMES, *[thing for thing in ANYTHING if thing not in ("put", "drop", "group", "low", "high")]]:
            self.refuses(("NoName", {}), ("join", thing), ("join", "ann"))
        for name in ("put", "a", "abcdefgh", "none", "join"):
            self.does(None, ("join", name), ("join", "ann"))
            self.refuses(("Twice", {}), ("join", name), ("join", name))
            self.refuses(("Twice", {}), ("join", name), ("join", name), ("fall", name))

    def test_fall_back_to_what_was_saved_last(self):
        ahead = (*READ, ("take", "ann", 1), ("take", "ann", 1), ("save", "ann"), ("deliver", 0), ("take", "ann", 5))
        hall = with_steps(*ahead)
        self.assertEqual((hall.place("ann"), hall.is_whole("ann"), hall.holds()), (3, True, [(1, 2)]))
        hall = self.does(None, ("fall", "ann"), *ahead)
        self.assertEqual([getattr(hall, ask)("ann") for ask in OF_TAKER],
                         [2, ((4, 9), (20, 1)), ((4, 5), (20, 21)), [], [], (2, ((4, 9), (20, 1)), ((4, 5), (20, 21))), False])
        self.assertEqual((hall.holds(), hall.names(), hall.places()), ([(2, 2)], ["ann"], (0, 3)))
        self.assertEqual(hall.take("ann", many=50), 1)
        self.assertEqual((hall.sure("ann"), hall.events("ann")), (((4, 5), (20, 21)), []))

    def test_fall_without_ever_having_saved(self):
        hall = self.does(None, ("fall", "ann"), *READ, ("deliver", 0), ("take", "ann", 50))
        self.assertEqual([getattr(hall, ask)("ann") for ask in OF_TAKER], [0, (), (), [], [], (0, (), ()), False])
        self.assertEqual(hall.holds(), [(2, 0)])
        self.assertEqual((hall.take("ann", many=50), hall.rows("ann")), (3, ((4, 9), (20, 1))))

    def test_fall_loses_its_wire_and_stops_its_readings(self):
        ahead = (*READ, ("join", "bob"), ("ask", "bob", 0, 5), ("look", 1, 50), ("finish", 1), ("ask", "ann", 0, 9),
                 ("ask", "bob", 0, 9))
        hall = with_steps(*ahead)
        self.assertEqual([row[:2] for row in hall.wire()], [(0, "ann"), (1, "bob")])
        hall = self.does(None, ("fall", "ann"), *ahead)
        self.assertEqual(hall.wire(), [(1, "bob", ((0, 5), (4, 9)))])
        self.assertEqual(hall.readings(), [(3, 2, (0, 9), (), False)])
        self.assertEqual((hall.asked("ann"), hall.asked("bob")),
                         ([], [(1, (0, 5), False, False), (3, (0, 9), False, False)]))
        for step in (("deliver", 0), ("lose", 0)):
            self.refuses(("NotOnWire", {"number": 0}), step, *ahead, ("fall", "ann"))
        for step in (("look", 2, 5), ("finish", 2), ("stop", 2)):
            self.refuses(("NoReading", {"number": 2}), step, *ahead, ("fall", "ann"))
        self.assertEqual((hall.ask("ann", 0, 1), hall.entries(7)), (4, [("low", 3, 4)]))

    def test_fall_again_and_again(self):
        hall = with_steps(("join", "ann"), *[("fall", "ann")] * 5)
        self.assertEqual((hall.holds(), hall.names()), ([(6, 0)], ["ann"]))

    def test_save(self):
        ahead = (*READ, ("deliver", 0), ("take", "ann", 2))
        hall = self.does(None, ("save", "ann"), *ahead)
        self.assertEqual((hall.saved("ann"), hall.holds()), ((2, ((4, 9), (20, 1)), ((4, 5), (20, 21))), [(1, 2)]))
        hall = self.does(None, ("save", "ann"), *ahead, ("take", "ann", 1))
        self.assertEqual(hall.saved("ann"), (3, ((0, 5), (4, 9), (7, 7), (20, 1), (999, 8)), (ALL,)))
        hall = self.does(1, ("take", "ann", 1), *ahead, ("save", "ann"))
        self.assertEqual((hall.saved("ann")[0], hall.holds(), hall.place("ann")), (2, [(1, 2)], 3))

    def test_no_taker(self):
        for name in ("bob", "", "Ann", "an", "ann ", "a" * 10000, "a\nb", *NO_NAMES):
            for step in (("fall", name), ("save", name), ("ask", name, 0, 5), ("take", name, 1), ("take", name, 50),
                         ("yield", name, 0), ("yield", name, HUGE), *[("ask", name, *stretch) for stretch in NO_STRETCHES]):
                self.refuses(("NoTaker", {"name": name}), step, *READ)
            hall = with_steps(*READ)
            for ask in OF_TAKER:
                self.assertEqual(outcome(getattr(hall, ask), name), ("NoTaker", {"name": name}))


class Readings(HallCase):
    def test_change(self):
        hall = self.does(None, ("change", PUT), ("join", "ann"))
        self.assertEqual((hall.table(), hall.places()), (((0, 5), (4, 9), (7, 7), (20, 1), (999, 8)), (0, 1)))
        self.assertEqual((hall.entries(0), len(hall), hall.place("ann")), ([("group", PUT)], 5, 0))
        six = tuple(("put", key, 999) for key in range(6))
        self.assertEqual(self.does(None, ("change", six)).table()[:6], tuple((key, 999) for key in range(6)))

    def test_no_change_of_anything(self):
        for thing in [*ANYTHING, *spoiled(PUT), PUT * 4, list(PUT)]:
            if not is_entry(("group", thing)):
                self.refuses(("NoChange", {}), ("change", thing), ("join", "ann"))

    def test_too_many_rows(self):
        table = tuple((key, 0) for key in range(99))
        more = (("put", 500, 1), ("put", 501, 1))
        self.refuses(("TooMany", {"many": 101}), ("change", more), table=table)
        self.refuses(("TooMany", {"many": 101}), ("change", more), ("join", "ann"), table=table, most=1)
        self.does(None, ("change", (*more, ("drop", 0))), table=table)

    def test_ask(self):
        hall = self.does(0, ("ask", "ann", 0, 1000), ("join", "ann"))
        self.assertEqual((hall.entries(0), hall.asked("ann")), ([("low", 1, 0)], [(0, ALL, False, False)]))
        self.assertEqual(hall.readings(), [(0, 1, ALL, (), False)])
        hall = self.does(2, ("ask", "bob", 999, 1000), *READ, ("ask", "ann", 0, 1), ("join", "bob"))
        self.assertEqual((hall.asked("bob"), hall.readings()[-1]), ([(2, (999, 1000), False, False)],
                                                                    (2, 2, (999, 1000), (), False)))
        self.assertEqual(hall.entries(4), [("low", 2, 2)])

    def test_no_stretch(self):
        for first, last in NO_STRETCHES:
            self.refuses(("NoStretch", {}), ("ask", "ann", first, last), ("join", "ann"))

    def test_look(self):
        self.assertEqual(FEW, 5)
        ahead = READ[:2]
        for many in range(5):
            hall = self.does(TABLE[:many], ("look", 0, many), *ahead)
            self.assertEqual(hall.readings(), [(0, 1, ALL, TABLE[:many], False)])
        for many in (5, 50):
            self.assertEqual(self.does(TABLE, ("look", 0, many), *ahead).readings(), [(0, 1, ALL, TABLE, True)])
        self.assertEqual(with_steps(*ahead).look(0), TABLE)
        full = tuple((key, 1) for key in range(100))
        self.does(full[:50], ("look", 0, 50), *ahead, table=full)
        self.assertEqual(with_steps(*ahead, table=full).look(0), full[:5])

    def test_look_refused(self):
        ended = (*READ[:2], ("look", 0, 50))
        for number in (1, -1, HUGE, -HUGE):
            self.refuses(("NoReading", {"number": number}), ("look", number, 5), *READ[:2])
            self.refuses(("NoReading", {"number": number}), ("look", number, 0), *READ[:2])
        self.refuses(("NoReading", {"number": 0}), ("look", 0, 5), *READ)
        for many in (0, 1, 50):
            self.refuses(("Ended", {}), ("look", 0, many), *ended)
        for many in (-1, 51, HUGE, -HUGE):
            for ahead in ((), READ[:2], ended, READ):
                self.refuses(("NoPlace", {"at": many}), ("look", 0, many), *ahead)
            self.refuses(("NoPlace", {"at": many}), ("look", 7, many), ("join", "ann"), most=1)

    def test_finish(self):
        hall = self.does(((0, 5), (4, 6), (7, 7), (20, 1), (999, 8)), READ[-1], *READ[:-1])
        self.assertEqual(hall.wire(), [(0, "ann", ((0, 5), (4, 6), (7, 7), (20, 1), (999, 8)))])
        self.assertEqual((hall.readings(), hall.entries(2)), ([], [("high", 1, 0)]))
        self.assertEqual(hall.asked("ann"), [(0, ALL, False, False)])
        for number in (0, 1, -1, HUGE):
            for word in ("finish", "stop"):
                self.refuses(("NoReading", {"number": number}), (word, number), *READ)
        self.refuses(("NotEnded", {}), ("finish", 0), *READ[:3])
        self.refuses(("NotEnded", {}), ("finish", 0), *READ[:2], ("look", 0, 4))

    def test_finish_of_what_was_given_up_goes_on_the_wire_too(self):
        ahead = (*READ[:-1], ("yield", "ann", 0))
        hall = self.does(((0, 5), (4, 6), (7, 7), (20, 1), (999, 8)), ("finish", 0), *ahead)
        self.assertEqual([row[:2] for row in hall.wire()], [(0, "ann")])
        hall = self.does(None, ("deliver", 0), *ahead, ("finish", 0))
        self.assertEqual((hall.wire(), hall.asked("ann"), hall.take("ann", many=50)), ([], [], 3))
        self.assertEqual(hall.sure("ann"), ((4, 5), (20, 21)))

    def test_stop(self):
        for ahead in (READ[:2], READ[:3], READ[:5], (*READ[:5], ("take", "ann", 50))):
            hall = self.does(None, ("stop", 0), *ahead)
            self.assertEqual((hall.readings(), hall.asked("ann"), hall.wire()), ([], [], []))
            self.assertEqual(hall.places(), with_steps(*ahead).places())
            self.refuses(("NotAsked", {"number": 0}), ("yield", "ann", 0), *ahead, ("stop", 0))
            self.refuses(("NoReading", {"number": 0}), ("finish", 0), *ahead, ("stop", 0))
        hall = self.does(None, ("stop", 0), *READ[:2], ("yield", "ann", 0))
        self.assertEqual((hall.readings(), hall.asked("ann")), ([], []))
        hall = self.does(None, ("stop", 1), *READ[:2], ("join", "bob"), ("ask", "bob", 3, 4))
        self.assertEqual((hall.asked("ann"), hall.asked("bob")), ([(0, ALL, False, False)], []))


class Wires(HallCase):
    def test_deliver(self):
        hall = self.does(None, ("deliver", 0), *READ)
        self.assertEqual((hall.wire(), hall.asked("ann")), ([], [(0, ALL, False, True)]))
        hall = self.does(None, ("deliver", 0), *READ, ("take", "ann", 50))
        self.assertEqual((hall.wire(), hall.asked("ann"), hall.place("ann")), ([], [(0, ALL, True, True)], 2))
        self.assertEqual((hall.take("ann"), hall.rows("ann"), hall.is_whole("ann")), (1, hall.table(), True))

    def test_deliver_to_one_that_gave_up_or_fell(self):
        hall = self.does(None, ("deliver", 0), *READ, ("yield", "ann", 0))
        self.assertEqual((hall.wire(), hall.asked("ann"), hall.sure("ann")), ([], [], ()))
        self.refuses(("NotOnWire", {"number": 0}), ("deliver", 0), *READ, ("fall", "ann"))

    def test_lose(self):
        hall = self.does(None, ("lose", 0), *READ)
        self.assertEqual((hall.wire(), hall.asked("ann"), hall.take("ann", many=50)), ([], [(0, ALL, False, False)], 2))
        self.assertEqual(hall.take("ann", many=50), 0)

    def test_each_once(self):
        for first in ("deliver", "lose"):
            for then in ("deliver", "lose"):
                self.refuses(("NotOnWire", {"number": 0}), (then, 0), *READ, (first, 0))
        for word in ("deliver", "lose"):
            for ahead in ((), READ[:1], READ[:2], READ[:-1], (*READ[:-1], ("stop", 0))):
                self.refuses(("NotOnWire", {"number": 0}), (word, 0), *ahead)
            for number in (1, -1, HUGE, -HUGE):
                self.refuses(("NotOnWire", {"number": number}), (word, number), *READ)

    def test_by_numbers(self):
        ahead = [("join", "zed"), ("join", "ann")]
        for number in range(12):
            ahead += [("ask", ("zed", "ann")[number // 2 & 1], number, number + 1), ("look", number, 50)]
        ahead += [("finish", number) for number in (7, 11, 2, 0, 9, 10, 1)]
        hall = with_steps(*ahead)
        self.assertEqual([row[:2] for row in hall.wire()],
                         [(0, "zed"), (1, "zed"), (2, "ann"), (7, "ann"), (9, "zed"), (10, "ann"), (11, "ann")])
        hall.deliver(9)
        hall.lose(0)
        self.assertEqual([row[0] for row in hall.wire()], [1, 2, 7, 10, 11])


class Taking(HallCase):
    def test_up_to_so_many(self):
        ahead = [("join", "ann"), *[("change", (("put", at, at),)) for at in range(60)]]
        for many in (1, 2, 49, 50):
            hall = self.does(many, ("take", "ann", many), *ahead)
            self.assertEqual((hall.place("ann"), len(hall.events("ann")), len(hall.rows("ann"))), (many, many, many))
            self.does(min(many, 10), ("take", "ann", many), *ahead, ("take", "ann", 50))
            self.does(0, ("take", "ann", many), *ahead, ("take", "ann", 50), ("take", "ann", 50))
        self.assertEqual(with_steps(*ahead).take("ann"), 1)
        self.does(0, ("take", "ann", 1), ("join", "ann"))

    def test_until_one_waits(self):
        hall = self.does(2, ("take", "ann", 50), *READ)
        self.assertEqual((hall.place("ann"), hall.asked("ann")), (2, [(0, ALL, True, False)]))
        self.assertEqual(hall.events("ann"), [(2, "put", 4, 9), (2, "put", 20, 1)])
        self.does(0, ("take", "ann", 1), *READ, ("take", "ann", 2))
        hall = self.does(3, ("take", "ann", 3), *READ, ("deliver", 0))
        self.assertEqual(hall.events("ann")[2:], [(3, "copy", 0, 5), (3, "copy", 7, 7), (3, "copy", 999, 8)])
        self.assertEqual((hall.rows("ann"), hall.sure("ann"), hall.is_whole("ann")), (hall.table(), (ALL,), True))
        self.does(3, ("take", "ann", 3), *READ, ("yield", "ann", 0))
        self.does(1, ("take", "ann", 3), *READ, ("take", "ann", 2), ("yield", "ann", 0))

    def test_refused(self):
        for many in (0, -1, 51, HUGE, -HUGE):
            for ahead in ((), READ):
                for name in ("ann", "bob", ""):
                    self.refuses(("NoPlace", {"at": many}), ("take", name, many), *ahead)

    def test_give_up(self):
        for ahead in (READ[:2], READ[:4], READ, (*READ, ("deliver", 0)), (*READ, ("take", "ann", 50))):
            hall = self.does(None, ("yield", "ann", 0), *ahead)
            self.assertEqual((hall.asked("ann"), hall.wire()), ([], with_steps(*ahead).wire()))
            self.assertEqual(hall.readings(), with_steps(*ahead).readings())
            self.refuses(("NotAsked", {"number": 0}), ("yield", "ann", 0), *ahead, ("yield", "ann", 0))
        for number in (0, 2, -1, HUGE):
            self.refuses(("NotAsked", {"number": number}), ("yield", "bob", number), *READ, ("join", "bob"),
                         ("ask", "bob", 0, 1))
        self.refuses(("NotAsked", {"number": 0}), ("yield", "ann", 0), *READ, ("deliver", 0), ("take", "ann", 50))
        self.refuses(("NotAsked", {"number": 0}), ("yield", "ann", 0), *READ, ("fall", "ann"))

    def test_trim(self):
        changes = [("change", PUT)] * 4
        hall = self.does(4, ("trim",), *changes)
        self.assertEqual((hall.places(), hall.entries(4)), ((4, 4), []))
        self.assertEqual(outcome(hall.entries, 3), ("Trimmed", {"at": 4}))
        self.assertEqual(outcome(hall.entries, 5), ("NoPlace", {"at": 5}))
        self.does(0, ("trim",))
        ahead = (*changes, ("join", "ann"), *changes, ("join", "bob"), ("take", "ann", 3))
        hall = self.does(4, ("trim",), *ahead)
        self.assertEqual((hall.places(), hall.holds(), hall.place("ann")), ((4, 8), [(1, 4), (2, 8)], 7))
        self.assertEqual(hall.entries(4, many=2), [("group", PUT)] * 2)
        self.does(4, ("trim",), *ahead, ("trim",))
        self.does(7, ("trim",), *ahead, ("save", "ann"))
        self.does(4, ("trim",), *ahead, ("fall", "ann"))
        self.does(8, ("trim",), *ahead, ("take", "ann", 9), ("save", "ann"), ("trim",))

    def test_entries_as_of_the_house(self):
        hall = with_steps(*[("change", (("put", at, at),)) for at in range(9)])
        log = [("group", (("put", at, at),)) for at in range(9)]
        for place in range(10):
            self.assertEqual(hall.entries(place), log[place:place + 5])
            self.assertEqual(hall.entries(many=2, place=place), log[place:place + 2])
            self.assertEqual(hall.entries(place, many=0), [])
        for place in (-1, -HUGE):
            self.assertEqual(outcome(hall.entries, place), ("Trimmed", {"at": 0}))
        for place in (10, HUGE):
            self.assertEqual(outcome(hall.entries, place), ("NoPlace", {"at": place}))


if __name__ == "__main__":
    unittest.main()
