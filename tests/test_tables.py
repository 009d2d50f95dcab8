"""Points 2, 4 and 5: tables, entries, logs, places."""

import copy
import unittest

from tests.things import ANYTHING, model_table_at, spoiled, weavings
from tidecopy import tables
from tidecopy.errors import NoPlace
from tidecopy.tables import KEYS, changed, is_entry, is_log, is_table, table_at

TABLE = ((0, 0), (3, 999), (7, 0), (999, 5))
PUT = ("put", 3, 10)
DROP = ("drop", 999)
GROUP = ("group", (PUT, DROP))
LOW = ("low", 1, 0)
HIGH = ("high", 10 ** 39, 10 ** 39)
LOG = [GROUP, LOW, ("group", (DROP,)), HIGH]


def whole(thing, least, most=None):
    return type(thing) is int and thing >= least and (most is None or thing <= most)


def model_row(thing):
    return type(thing) is tuple and len(thing) == 2 and all(whole(part, 0, 999) for part in thing)


def model_table(thing):
    if type(thing) is not tuple or len(thing) > 100 or not all(map(model_row, thing)):
        return False
    keys = [key for key, worth in thing]
    return keys == sorted(set(keys))


def model_change(thing):
    if type(thing) is not tuple or not thing or type(thing[0]) is not str:
        return False
    parts = {"put": 2, "drop": 1}.get(thing[0])
    return len(thing) - 1 == parts and all(whole(part, 0, 999) for part in thing[1:])


def model_entry(thing):
    if type(thing) is not tuple or not thing or type(thing[0]) is not str:
        return False
    if thing[0] == "group":
        changes = thing[1] if len(thing) == 2 else None
        return type(changes) is tuple and 1 <= len(changes) <= 6 and all(map(model_change, changes))
    return thing[0] in ("low", "high") and len(thing) == 3 and whole(thing[1], 1) and whole(thing[2], 0)


def model_log(thing):
    return type(thing) is list and len(thing) <= 400 and all(map(model_entry, thing))


class Kinds(unittest.TestCase):
    def told(self, ask, good, bad):
        for thing in good:
            self.assertIs(ask(thing), True, thing)
            self.assertIs(ask(thing=thing), True, thing)
        for thing in bad:
            self.assertIs(ask(thing), False, thing)

    def test_tables(self):
        full = tuple((key, key) for key in range(100))
        self.told(is_table, [
            (), TABLE, ((0, 0),), ((999, 999),), ((0, 999), (999, 0)), full,
            tuple((key, 1) for key in range(900, 1000)), ((5, 1), (6, 1)),
        ], [
            tuple((key, key) for key in range(101)), [], [(0, 0)], [list(row) for row in TABLE],
            ([0, 0],), ((-1, 0),), ((1000, 0),), ((0, -1),), ((0, 1000),), ((0,),), ((0, 0, 0),), ((),), (0, 0),
            ((5, 1), (5, 1)), ((5, 1), (5, 2)), ((6, 1), (5, 1)), ((0, 1), (9, 1), (8, 1)), ((0, 1), (9, 1), (0, 1)),
            ((True, 0),), ((0, False),), ((0, 0), (True, 0)), (("0", 0),), ((0, None),), ((0, 0.0),), ((0.0, 0),),
            {}, {0: 0}, set(), b"", "0:0", None, True, False, 0,
        ])

    def test_entries(self):
        self.told(is_entry, [
            GROUP, LOW, HIGH, ("low", 1, 0), ("high", 1, 0), ("low", 10 ** 40 - 1, 10 ** 40 - 1),
            ("group", (PUT,)), ("group", (PUT,) * 6), ("group", (("put", 0, 0), ("put", 999, 999))),
            ("group", (("drop", 0), ("drop", 999))), ("group", (PUT, ("drop", 3), PUT)),
        ], [
            ("group", ()), ("group", (PUT,) * 7), ("group", [PUT]), ["group", (PUT,)], ("group",), ("group", PUT),
            ("group", (PUT,), ()), ("group", (PUT,), (PUT,)), ("group", 1, 0), ("group", 1, 0, 0),
            ("group", (list(PUT),)), ("group", (("put", 3),)), ("group", (("put", 3, 1, 1),)), ("group", (("drop",),)),
            ("group", (("drop", 3, 1),)), ("group", (("drop", 3, None),)), ("group", ((),)), ("group", (("put",),)),
            ("group", (("put", -1, 0),)), ("group", (("put", 1000, 0),)), ("group", (("put", 0, -1),)),
            ("group", (("put", 0, 1000),)), ("group", (("drop", -1),)), ("group", (("drop", 1000),)),
            ("group", (("put", True, 0),)), ("group", (("put", 0, True),)), ("group", (("drop", False),)),
            ("group", (("Put", 0, 0),)), ("group", (PUT, None)), ("group", (LOW,)), ("group", (GROUP,)),
            ("low", 0, 0), ("low", -1, 0), ("low", 1, -1), ("high", 0, 0), ("high", 1, -1), ["low", 1, 0],
            ("low", True, 0), ("low", 1, False), ("high", True, True), ("low", 1), ("low",), ("low", 1, 0, 0),
            ("low", "1", 0), ("low", 1, None), ("mid", 1, 0), ("LOW", 1, 0), ("low", (PUT,)), ("low", 1.0, 0),
            (), PUT, DROP, TABLE, LOG, None, True, 0, "low", "group", {}, set(), b"low",
        ])

    def test_logs(self):
        self.told(is_log, [
            [], LOG, [LOW], [LOW] * 400, [GROUP] * 400, [GROUP, LOW] * 200,
        ], [
            [LOW] * 401, tuple(LOG), (), [[]], [()], [None], [LOW, None], [None, LOW], [LOG], [list(LOW)], [PUT],
            [GROUP] * 399 + [("group", ())], [("low", 0, 0)], GROUP, None, True, False, 0, "", "[]", {}, set(),
        ])

    def test_things_of_any_kind(self):
        for thing in ANYTHING:
            self.assertIs(is_table(thing), model_table(thing), thing)
            self.assertIs(is_entry(thing), model_entry(thing), thing)
            self.assertIs(is_log(thing), model_log(thing), thing)

    def test_spoiled_at_any_depth(self):
        asked = [(is_table, model_table, TABLE), (is_entry, model_entry, GROUP), (is_entry, model_entry, LOW),
                 (is_entry, model_entry, HIGH), (is_log, model_log, LOG)]
        for ask, model, good in asked:
            self.assertIs(ask(good), True)
            for thing in spoiled(good):
                ahead = repr(thing)
                self.assertIs(ask(thing), model(thing), thing)
                self.assertEqual(repr(thing), ahead)

    def test_there_are_a_thousand_keys(self):
        self.assertEqual(KEYS, 1000)
        self.assertIs(type(KEYS), int)

    def test_all_is_defined_in_tables(self):
        for ask in (is_table, is_entry, is_log, table_at, changed):
            self.assertEqual(ask.__module__, "tidecopy.tables")
            self.assertIs(getattr(tables, ask.__name__), ask)


class TableAt(unittest.TestCase):
    def test_ordinary(self):
        self.assertEqual(table_at(TABLE, LOG, 0), TABLE)
        self.assertEqual(table_at(TABLE, LOG, 1), ((0, 0), (3, 10), (7, 0)))
        self.assertEqual(table_at(TABLE, LOG, 4), ((0, 0), (3, 10), (7, 0)))
        self.assertEqual(table_at(place=1, log=LOG, table=TABLE), ((0, 0), (3, 10), (7, 0)))

    def test_without_rows_or_entries(self):
        self.assertEqual(table_at((), [], 0), ())
        self.assertEqual(table_at(TABLE, [], 0), TABLE)
        self.assertEqual(table_at((), LOG, 1), ((3, 10),))
        self.assertEqual(table_at(((3, 1),), [("group", (("drop", 3),))], 1), ())

    def test_keys_rise_where_changes_do_not(self):
        log = [("group", (("put", 9, 1), ("put", 0, 2), ("put", 5, 3)))]
        self.assertEqual(table_at(((7, 7),), log, 1), ((0, 2), (5, 3), (7, 7), (9, 1)))

    def test_changes_of_a_group_one_behind_the_other(self):
        cases = [
            ((("put", 3, 1), ("put", 3, 2)), ((3, 2),)),
            ((("put", 3, 1), ("drop", 3)), ()),
            ((("drop", 3), ("put", 3, 2)), ((3, 2),)),
            ((("drop", 3), ("drop", 3)), ()),
            ((("put", 3, 1), ("drop", 3), ("put", 3, 0)), ((3, 0),)),
        ]
        for changes, rows in cases:
            for table in ((), ((3, 9),)):
                self.assertEqual(table_at(table, [("group", changes)], 1), rows)

    def test_drops_of_keys_that_are_not_there(self):
        self.assertEqual(table_at(((1, 1),), [("group", (("drop", 0), ("drop", 2)))], 1), ((1, 1),))

    def test_marks_do_nothing(self):
        log = [LOW, HIGH, ("high", 3, 5), ("low", 3, 5)]
        for place in range(5):
            self.assertEqual(table_at(TABLE, log, place), TABLE)

    def test_more_than_a_hundred_rows(self):
        table = tuple((key, 1) for key in range(100))
        log = [("group", tuple(("put", key, 2) for key in range(at, at + 6))) for at in range(100, 700, 6)]
        self.assertEqual(table_at(table, log, 1), table + tuple((key, 2) for key in range(100, 106)))
        self.assertEqual(table_at(table, log, 100), table + tuple((key, 2) for key in range(100, 700)))

    def test_each_place_of_some_logs(self):
        for chance, table, log in weavings(4, 60, 8, range(6)):
            for place in range(len(log) + 1):
                self.assertEqual(table_at(table, log, place), model_table_at(table, log, place))

    def test_no_place(self):
        for log in ([], [LOW], LOG, [GROUP] * 400):
            table_at(TABLE, log, len(log))
            for place in (-1, len(log) + 1, -len(log) - 1, 10 ** 40 - 1, -(10 ** 40 - 1)):
                with self.assertRaises(NoPlace) as caught:
                    table_at(TABLE, log, place)
                self.assertEqual(caught.exception.at, place)

    def test_what_is_handed_in_stays(self):
        table, log = copy.deepcopy(TABLE), copy.deepcopy(LOG)
        for place in range(5):
            once = table_at(table, log, place)
            self.assertEqual(table_at(table, log, place), once)
            self.assertTrue(type(once) is tuple and all(type(row) is tuple for row in once))
        self.assertRaises(NoPlace, table_at, table, log, 5)
        self.assertEqual((table, log), (TABLE, LOG))


class Changed(unittest.TestCase):
    def test_ordinary(self):
        log = [("group", (("put", 9, 1), ("drop", 2))), LOW, ("group", (("drop", 5), ("put", 2, 0), ("put", 2, 1)))]
        self.assertEqual(changed(log, 0, 1), [2, 9])
        self.assertEqual(changed(log, 1, 2), [])
        self.assertEqual(changed(log, 1, 3), [2, 5])
        self.assertEqual(changed(log, 0, 3), [2, 5, 9])
        self.assertEqual(changed(high=3, low=2, log=log), [2, 5])
        self.assertEqual(changed([], 0, 0), [])

    def test_keys_rise_each_once(self):
        order = (500, 3, 999, 0, 64, 7)
        log = [("group", tuple(("put", key, key) for key in order)), ("group", tuple(("drop", key) for key in order))]
        self.assertEqual(changed(log, 0, 2), [0, 3, 7, 64, 500, 999])

    def test_each_two_places(self):
        for chance, table, log in weavings(5, 40, 7, range(9)):
            for low in range(len(log) + 1):
                for high in range(len(log) + 1):
                    keys = {change[1] for at, entry in enumerate(log) if low <= at < high and entry[0] == "group"
                            for change in entry[1]}
                    self.assertEqual(changed(log, low, high), sorted(keys))

    def test_none_where_the_second_place_is_not_greater(self):
        for low in range(5):
            for high in range(low + 1):
                self.assertEqual(changed(LOG, low, high), [])

    def test_no_place_of_the_first_that_is_none(self):
        cases = [(-1, 0, -1), (5, 0, 5), (0, -1, -1), (0, 5, 5), (4, -1, -1), (-2, 9, -2), (9, -2, 9), (6, 5, 6),
                 (4, -5, -5), (10 ** 40 - 1, -1, 10 ** 40 - 1), (0, 10 ** 40 - 1, 10 ** 40 - 1)]
        for low, high, at in cases:
            with self.assertRaises(NoPlace) as caught:
                changed(LOG, low, high)
            self.assertEqual(caught.exception.at, at)

    def test_each_list_is_a_new_one(self):
        log = copy.deepcopy(LOG)
        once = changed(log, 0, 4)
        once.append(1)
        self.assertEqual(changed(log, 0, 4), [3, 999])
        none = changed(log, 4, 0)
        none.append(1)
        self.assertEqual(changed(log, 4, 0), [])
        self.assertEqual(log, LOG)


if __name__ == "__main__":
    unittest.main()
