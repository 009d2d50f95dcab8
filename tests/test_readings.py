"""Points 2, 3, 6 and 7: what is read at moments, and at which moments rows can have been read."""

import copy
import itertools
import unittest

from tests.things import model_looks, model_table_at, weavings
from tidecopy import readings
from tidecopy.errors import NoPlace
from tidecopy.readings import moments, odd, read_by

ALL = (0, 1000)
TABLE = ((0, 5), (4, 6), (999, 7))
LOG = [("group", (("put", 2, 8),)), ("low", 1, 0), ("group", (("drop", 4), ("put", 6, 9))), ("high", 1, 0),
       ("group", (("put", 0, 1), ("drop", 999)))]
STRETCHES = ((0, 5), (0, 1000), (1, 3), (2, 5), (4, 5), (5, 9))
HUGE = 10 ** 40 - 1


def tables_of(table, log):
    return [model_table_at(table, log, place) for place in range(len(log) + 1)]


def some_moments(low, high, many):
    """All moments within bounds, in order."""
    return itertools.combinations_with_replacement(range(low, high + 1), many)


def model_read(tables, stretch, at):
    found = model_looks(tables, stretch, at)
    return tuple(found[:-1]) if found[-1] is None and None not in found[:-1] else None


def model_moments(tables, low, high, stretch, rows):
    for at in some_moments(low, high, len(rows) + 1):
        if model_read(tables, stretch, at) == rows:
            return at
    return None


def model_odd(tables, low, high, stretch, rows):
    for many in range(1, len(rows) + 1):
        if not any(tuple(model_looks(tables, stretch, at)) == rows[:many] for at in some_moments(low, high, many)):
            return many - 1
    return len(rows) if model_moments(tables, low, high, stretch, rows) is None else None


def wrong_rows(rows):
    """Rows that are near to those: one left out, one more, one changed, another order."""
    yield rows[::-1]
    for at, (key, worth) in enumerate(rows):
        yield rows[:at] + rows[at + 1:]
        yield rows[:at] + (rows[at],) + rows[at:]
        for row in ((key, worth + 1), (key + 1, worth), (key - 1, worth), (-key, worth), (HUGE, HUGE), (key, -HUGE)):
            yield rows[:at] + (row,) + rows[at + 1:]
    for row in ((0, 0), (4, 1), (5, 0), (1000, 0), (-1, 0), (HUGE, 0)):
        yield rows + (row,)
        yield (row,) + rows


class ReadBy(unittest.TestCase):
    def test_a_reading_to_its_end(self):
        self.assertEqual(read_by(TABLE, LOG, ALL, (0, 0, 0, 0)), TABLE)
        self.assertEqual(read_by(TABLE, LOG, ALL, (0, 1, 1, 2, 4)), ((0, 5), (2, 8), (4, 6), (999, 7)))
        self.assertEqual(read_by(TABLE, LOG, ALL, (0, 0, 3, 5)), ((0, 5), (4, 6), (6, 9)))
        self.assertEqual(read_by(TABLE, LOG, ALL, (5, 5, 5, 5)), ((0, 1), (2, 8), (6, 9)))
        self.assertEqual(read_by(moments=(0, 0), stretch=(1, 5), log=LOG, table=TABLE), ((4, 6),))

    def test_one_moment_more_one_less(self):
        self.assertIs(read_by(TABLE, LOG, ALL, (0, 0, 0)), None)
        self.assertIs(read_by(TABLE, LOG, ALL, (0, 0, 0, 0, 0)), None)
        self.assertIs(read_by(TABLE, LOG, ALL, (0,)), None)
        self.assertIs(read_by(TABLE, LOG, (1, 3), (0, 1)), None)
        self.assertIs(read_by(TABLE, LOG, (1, 3), (0, 5)), None)

    def test_stretches_without_rows(self):
        self.assertEqual(read_by((), [], ALL, (0,)), ())
        self.assertIs(read_by((), [], ALL, (0, 0)), None)
        self.assertEqual(read_by(TABLE, LOG, (1, 2), (5,)), ())

    def test_stretches_at_both_ends(self):
        self.assertEqual(read_by(TABLE, LOG, (0, 1), (0, 0)), ((0, 5),))
        self.assertEqual(read_by(TABLE, LOG, (0, 1), (5, 5)), ((0, 1),))
        self.assertEqual(read_by(TABLE, LOG, (999, 1000), (4, 4)), ((999, 7),))
        self.assertEqual(read_by(TABLE, LOG, (999, 1000), (4, 5)), ((999, 7),))
        self.assertEqual(read_by(TABLE, LOG, (999, 1000), (5,)), ())
        self.assertEqual(read_by(TABLE, LOG, (0, 4), (0, 0)), ((0, 5),))
        self.assertEqual(read_by(TABLE, LOG, (4, 999), (0, 0)), ((4, 6),))
        full = tuple((key, key) for key in range(100))
        self.assertEqual(read_by(full, [], ALL, (0,) * 101), full)

    def test_a_key_once_found_is_not_found_again(self):
        log = [("group", (("put", 1, 2),)), ("group", (("put", 0, 3),))]
        self.assertEqual(read_by(((1, 1),), log, ALL, (0, 2)), ((1, 1),))
        self.assertEqual(read_by(((1, 1),), log, ALL, (1, 1)), ((1, 2),))
        self.assertEqual(read_by(((1, 1),), log, ALL, (2, 2, 2)), ((0, 3), (1, 2)))

    def test_all_moments_of_some_logs(self):
        for chance, table, log in weavings(6, 60, 4, range(5)):
            tables = tables_of(table, log)
            for stretch in STRETCHES:
                for many in range(1, 5):
                    for at in some_moments(0, len(log), many):
                        self.assertEqual(read_by(table, log, stretch, at), model_read(tables, stretch, at))


class Moments(unittest.TestCase):
    def told(self, table, log, low, high, stretch, rows, least, first):
        self.assertEqual(moments(table, log, low, high, stretch, rows), least)
        self.assertEqual(odd(table, log, low, high, stretch, rows), first)

    def test_the_least_moments(self):
        self.told(TABLE, LOG, 0, 5, ALL, TABLE, (0, 0, 0, 0), None)
        self.told(TABLE, LOG, 0, 5, ALL, ((0, 5), (2, 8), (4, 6), (999, 7)), (0, 1, 1, 1, 1), None)
        self.told(TABLE, LOG, 0, 5, ALL, ((0, 5), (4, 6), (6, 9)), (0, 0, 3, 5), None)
        self.told(TABLE, LOG, 1, 5, ALL, ((0, 5), (2, 8), (6, 9), (999, 7)), (1, 1, 3, 3, 3), None)
        self.told(TABLE, LOG, 2, 5, (0, 2), ((0, 5),), (2, 2), None)
        self.assertEqual(moments(rows=((0, 1),), stretch=(0, 2), high=5, low=0, log=LOG, table=TABLE), (5, 5))
        self.assertIs(odd(rows=((0, 1),), stretch=(0, 2), high=5, low=0, log=LOG, table=TABLE), None)

    def test_bounds_narrower_than_needed(self):
        self.told(TABLE, LOG, 1, 5, ALL, TABLE, None, 1)
        self.told(TABLE, LOG, 0, 4, ALL, ((0, 5), (4, 6), (6, 9)), None, 3)
        self.told(TABLE, LOG, 0, 2, ALL, ((0, 5), (4, 6), (6, 9)), None, 2)
        self.told(TABLE, LOG, 0, 4, (0, 2), ((0, 1),), None, 0)
        self.told(TABLE, LOG, 5, 5, (0, 2), ((0, 1),), (5, 5), None)
        self.told(TABLE, LOG, 4, 4, (0, 2), ((0, 1),), None, 0)

    def test_an_earlier_moment_is_not_gone_back_to(self):
        log = [("group", (("put", 0, 1),)), ("group", (("drop", 5),))]
        self.told(((5, 5),), log, 0, 2, ALL, ((0, 1), (5, 5)), (1, 1, 1), None)
        log = [("group", (("drop", 5), ("put", 0, 1)))]
        self.told(((5, 5),), log, 0, 1, ALL, ((0, 1), (5, 5)), None, 1)

    def test_no_rows_at_all(self):
        self.told((), [], 0, 0, ALL, (), (0,), None)
        self.told(TABLE, LOG, 0, 5, ALL, (), None, 0)
        self.told(TABLE, LOG, 0, 5, (999, 1000), (), (5,), None)
        self.told(TABLE, LOG, 0, 4, (999, 1000), (), None, 0)
        self.told(TABLE, LOG, 3, 5, (7, 9), (), (3,), None)

    def test_rows_never_there_left_out_or_in_a_wrong_order(self):
        self.told(TABLE, LOG, 0, 5, ALL, ((0, 5), (4, 7), (999, 7)), None, 1)
        self.told(TABLE, LOG, 0, 5, ALL, ((0, 5), (3, 6)), None, 1)
        self.told(TABLE, LOG, 0, 4, ALL, ((0, 5), (999, 7)), None, 1)
        self.told(TABLE, LOG, 0, 4, ALL, ((0, 5), (4, 6)), None, 2)
        self.told(TABLE, LOG, 0, 4, ALL, ((4, 6), (0, 5)), None, 0)
        self.told(TABLE, LOG, 0, 4, ALL, ((0, 5), (4, 6), (0, 5)), None, 2)
        self.told(TABLE, LOG, 0, 4, ALL, ((0, 5), (0, 5)), None, 1)
        self.told(TABLE, LOG, 0, 5, ALL, TABLE + ((999, 7),), None, 3)

    def test_rows_outside_of_the_stretch_and_of_any_size(self):
        self.told(TABLE, LOG, 0, 4, (0, 4), ((0, 5), (4, 6)), None, 1)
        self.told(TABLE, LOG, 0, 4, (1, 5), ((0, 5), (4, 6)), None, 0)
        self.told(TABLE, LOG, 0, 4, (0, 1), ((0, 5), (999, 7)), None, 1)
        for row in ((-1, 5), (1000, 0), (HUGE, 1), (-HUGE, 1), (4, HUGE), (4, -HUGE), (HUGE, HUGE), (4, 1000)):
            self.told(TABLE, LOG, 0, 5, ALL, (row,), None, 0)
            self.told(TABLE, LOG, 0, 5, ALL, ((0, 5), row), None, 1)
            self.told(TABLE, LOG, 0, 5, ALL, TABLE + (row,), None, 3)

    def test_against_a_search_through_all_moments(self):
        for chance, table, log in weavings(7, 150, 4, range(5)):
            tables = tables_of(table, log)
            low, high = sorted((chance.randint(0, len(log)), chance.randint(0, len(log))))
            stretch = chance.choice(STRETCHES)
            for at in list(some_moments(low, high, chance.randint(1, 4))):
                found = model_looks(tables, stretch, at)
                rows = tuple(row for row in found if row is not None)
                for low_bound, high_bound in ((low, high), (0, len(log)), (at[0], at[-1])):
                    self.check(table, log, tables, low_bound, high_bound, stretch, rows)

    def test_wrong_rows_against_a_search(self):
        for chance, table, log in weavings(8, 60, 4, range(5)):
            tables = tables_of(table, log)
            stretch = chance.choice(STRETCHES)
            at = sorted(chance.randint(0, len(log)) for look in range(4))
            rows = tuple(row for row in model_looks(tables, stretch, at) if row is not None)
            for wrong in wrong_rows(rows):
                self.check(table, log, tables, at[0], len(log), stretch, wrong)

    def check(self, table, log, tables, low, high, stretch, rows):
        least = moments(table, log, low, high, stretch, rows)
        self.assertEqual(least, model_moments(tables, low, high, stretch, rows))
        first = odd(table, log, low, high, stretch, rows)
        self.assertEqual(first, model_odd(tables, low, high, stretch, rows))
        self.assertEqual(least is None, first is not None)
        if least is not None:
            self.assertIs(type(least), tuple)
            self.assertEqual(read_by(table, log, stretch, least), rows)

    def test_a_long_log_and_many_rows(self):
        table = tuple((key, 0) for key in range(0, 200, 2))
        log = [("group", (("put", at % 1000, 1), ("drop", 999 - at))) for at in range(400)]
        whole = model_table_at(table, log, 400)
        self.told(table, log, 400, 400, ALL, whole, (400,) * (len(whole) + 1), None)
        self.told(table, log, 0, 400, ALL, table, (0,) * 101, None)
        self.told(table, log, 399, 399, ALL, whole, None, len(whole) - 1)

    def test_no_place_low_first_then_high(self):
        cases = [(-1, 0, -1), (6, 6, 6), (-2, -1, -2), (6, 7, 6), (0, 6, 6), (5, 6, 6), (-1, 6, -1), (0, HUGE, HUGE),
                 (-HUGE, HUGE, -HUGE)]
        for ask in (moments, odd):
            for low, high, at in cases:
                for rows in ((), TABLE, ((-1, -1),)):
                    with self.assertRaises(NoPlace) as caught:
                        ask(TABLE, LOG, low, high, ALL, rows)
                    self.assertEqual(caught.exception.at, at)
        for ask in (moments, odd):
            with self.assertRaises(NoPlace) as caught:
                ask((), [], 0, 1, ALL, ())
            self.assertEqual(caught.exception.at, 1)

    def test_what_is_handed_in_stays(self):
        table, log = copy.deepcopy(TABLE), copy.deepcopy(LOG)
        rows = ((0, 5), (4, 6), (6, 9))
        for ask in (moments, odd):
            once = ask(table, log, 0, 5, ALL, rows)
            self.assertEqual(ask(table, log, 0, 5, ALL, rows), once)
        self.assertEqual(read_by(table, log, ALL, (0, 0, 3, 5)), rows)
        self.assertEqual(read_by(table, log, ALL, (0, 0, 3, 5)), rows)
        self.assertEqual((table, log), (TABLE, LOG))

    def test_all_is_defined_in_readings(self):
        for ask in (read_by, moments, odd):
            self.assertEqual(ask.__module__, "tidecopy.readings")
            self.assertIs(getattr(readings, ask.__name__), ask)


if __name__ == "__main__":
    unittest.main()
