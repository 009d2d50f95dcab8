"""Points 2, 3 and 8: what a log and pieces come to."""

import copy
import itertools
import random
import unittest

from tests.models import model_joined, outcome
from tests.things import model_looks, model_table_at, some_entry, weavings
from tidecopy import joining
from tidecopy.joining import joined

ALL = (0, 1000)
LOW, HIGH = ("low", 1, 0), ("high", 1, 0)
LOG = [("group", (("put", 2, 8),)), LOW, ("group", (("drop", 4), ("put", 6, 9))), HIGH,
       ("group", (("put", 0, 1), ("drop", 999)))]
HUGE = 10 ** 40 - 1
KEYS = (0, 1, 2, 3, 5, 8, 500, 501, 998, 999)
EDGES = (0, 1, 2, 3, 4, 8, 9, 499, 501, 502, 998, 999, 1000)


def put(*rows):
    return ("group", tuple(("put", key, worth) for key, worth in rows))


def drop(*keys):
    return ("group", tuple(("drop", key) for key in keys))


def some_piece(chance, length, start):
    low, high = sorted(chance.randint(start, length) for at in range(2))
    first, last = sorted(chance.sample(EDGES, 2))
    rows = tuple((key, chance.randrange(1000)) for key in KEYS if first <= key < last and chance.randrange(2))
    return (low, high, (first, last), rows)


class Joined(unittest.TestCase):
    def told(self, log, pieces, place, rows, gaps, start=0):
        self.assertEqual(joined(log, pieces, place, start=start), (rows, gaps))
        self.assertEqual(model_joined(log, pieces, place, start), (rows, gaps))

    def test_without_pieces(self):
        self.told([], [], 0, (), (ALL,))
        self.told(LOG, [], 0, (), (ALL,))
        self.told(LOG, [], 2, ((2, 8),), ((0, 2), (3, 1000)))
        self.told(LOG, [], 5, ((0, 1), (2, 8), (6, 9)), ((1, 2), (3, 4), (5, 6), (7, 999)))

    def test_start_may_be_left_out_and_all_be_named(self):
        self.assertEqual(joined(LOG, [], 2), (((2, 8),), ((0, 2), (3, 1000))))
        self.assertEqual(joined(start=2, place=3, pieces=[], log=LOG), (((6, 9),), ((0, 4), (5, 6), (7, 1000))))

    def test_start_greater_than_0(self):
        self.told(LOG, [], 5, ((0, 1), (6, 9)), ((1, 4), (5, 6), (7, 999)), start=1)
        self.told(LOG, [], 5, (), (ALL,), start=5)
        self.told(LOG, [(5, 5, (3, 5), ((4, 4),))], 5, ((4, 4),), ((0, 3), (5, 1000)), start=5)
        self.told(LOG, [(3, 4, ALL, ((2, 7), (6, 5)))], 4, ((2, 7), (6, 5)), (), start=3)

    def test_a_change_behind_ahead_of_and_between_the_marks_goes_first(self):
        for at in range(3):
            log = [LOW, HIGH]
            log.insert(at, put((5, 1)))
            self.told(log, [(0, 3, (4, 7), ((5, 9), (6, 3)))], 3, ((5, 1), (6, 3)), ((0, 4), (7, 1000)))
            log[at] = drop(5)
            self.told(log, [(0, 3, (4, 7), ((5, 9), (6, 3)))], 3, ((6, 3),), ((0, 4), (7, 1000)))

    def test_the_last_change_counts(self):
        self.told([put((3, 1), (3, 2))], [], 1, ((3, 2),), ((0, 3), (4, 1000)))
        self.told([put((3, 1)), drop(3)], [], 2, (), ((0, 3), (4, 1000)))
        self.told([drop(3), put((3, 0))], [], 2, ((3, 0),), ((0, 3), (4, 1000)))
        self.told([put((3, 1)), drop(3)], [], 1, ((3, 1),), ((0, 3), (4, 1000)))
        self.told([put((3, 1)), LOW, put((3, 5))], [], 2, ((3, 1),), ((0, 3), (4, 1000)))

    def test_a_piece_without_a_row_of_a_key_says_nothing_is_there(self):
        self.told([LOW, HIGH], [(1, 2, (0, 10), ())], 2, (), ((10, 1000),))
        self.told([LOW, HIGH], [(1, 2, (0, 10), ((4, 1),)), (1, 2, (0, 10), ((3, 1), (4, 2)))], 2,
                  ((4, 1),), ((10, 1000),))

    def test_the_first_piece_that_has_ended_counts(self):
        one, other = (0, 1, (0, 10), ((3, 1),)), (0, 1, (5, 20), ((7, 2), (12, 2)))
        third = (1, 2, (0, 20), ((3, 9), (7, 9), (12, 9), (15, 9)))
        log = [LOW, HIGH]
        self.told(log, [one, other], 1, ((3, 1), (12, 2)), ((20, 1000),))
        self.told(log, [other, one], 1, ((3, 1), (7, 2), (12, 2)), ((20, 1000),))
        self.told(log, [third, other, one], 1, ((3, 1), (7, 2), (12, 2)), ((20, 1000),))
        self.told(log, [third, other, one], 2, third[3], ((20, 1000),))
        self.told(log, [one, other, third], 2, ((3, 1), (12, 2)), ((20, 1000),))

    def test_a_high_that_is_greater_than_the_place(self):
        piece = (1, 3, (0, 1000), ((4, 4),))
        log = [LOW] * 4
        self.told(log, [piece], 2, (), (ALL,))
        self.told(log, [piece], 3, ((4, 4),), ())
        self.told(log, [piece], 4, ((4, 4),), ())
        self.told(log, [(0, 0, (2, 5), ((2, 2),))], 0, ((2, 2),), ((0, 2), (5, 1000)))

    def test_gaps_as_few_as_can_be(self):
        log = [put((0, 1), (999, 1))]
        self.told(log, [(0, 1, (1, 500), ()), (0, 1, (500, 999), ())], 1, ((0, 1), (999, 1)), ())
        self.told(log, [(0, 1, (1, 500), ()), (0, 1, (501, 999), ())], 1, ((0, 1), (999, 1)), ((500, 501),))
        self.told([], [(0, 0, (key, key + 1), ()) for key in range(0, 1000, 2)], 0, (),
                  tuple((key, key + 1) for key in range(1, 1000, 2)))
        self.told([], [(0, 0, (0, 999), ())], 0, (), ((999, 1000),))
        self.told([], [(0, 0, (1, 1000), ())], 0, (), ((0, 1),))

    def test_more_rows_than_a_table_may_have(self):
        rows = tuple((key, key) for key in range(500))
        self.told([put((999, 1))], [(0, 1, (0, 700), rows)], 1, rows + ((999, 1),), ((700, 999),))

    def test_a_long_log_and_many_pieces(self):
        log = [put((at, at), (999 - at, 1)) if at % 2 else drop(at, 999 - at) for at in range(400)]
        pieces = [(at % 400, 400, (at, at + 500), ((at, at),)) for at in range(500)]
        self.assertEqual(joined(log, pieces, 400, start=0), model_joined(log, pieces, 400))
        self.assertEqual(joined(log, pieces[::-1], 399, start=7), model_joined(log, pieces[::-1], 399, 7))

    def test_against_the_model_key_by_key(self):
        chance = random.Random(11)
        for run in range(60):
            log = [some_entry(chance, KEYS) for at in range(chance.randint(0, 8))]
            start = chance.choice((0, chance.randint(0, len(log))))
            pieces = [some_piece(chance, len(log), start) for at in range(chance.randint(0, 5))]
            for place in range(start, len(log) + 1):
                told = joined(log, pieces, place, start=start)
                self.assertEqual(repr(told), repr(model_joined(log, pieces, place, start)))
                chance.shuffle(pieces)

    def test_pieces_that_were_read_come_to_the_same_in_any_order(self):
        for chance, table, log in weavings(12, 40, 8, range(9)):
            tables = [model_table_at(table, log, place) for place in range(len(log) + 1)]
            start = chance.randint(0, len(log))
            pieces = []
            for stretch in ((0, 4), (3, 7), (6, 1000), (2, 8)):
                at = sorted(chance.randint(start, len(log)) for look in range(10))
                rows = tuple(row for row in model_looks(tables, stretch, at) if row is not None)
                pieces.append((at[0], at[-1], stretch, rows))
            for place in range(start, len(log) + 1):
                told = {joined(log, list(order), place, start=start) for order in itertools.permutations(pieces)}
                self.assertEqual(len(told), 1)
                rows, gaps = told.pop()
                unsure = {key for first, last in gaps for key in range(first, last)}
                self.assertEqual(rows, tuple(row for row in tables[place] if row[0] not in unsure))
            self.assertEqual(joined(log, pieces, len(log), start=start), (tables[-1], ()))

    def test_no_place_of_start_then_of_the_place_then_less_than_start(self):
        cases = [(-1, 0, -1), (6, 0, 6), (6, 6, 6), (-1, -2, -1), (6, -2, 6), (HUGE, -HUGE, HUGE), (-HUGE, HUGE, -HUGE),
                 (0, -1, -1), (0, 6, 6), (5, 6, 6), (5, -1, -1), (3, HUGE, HUGE), (3, 2, 2), (5, 4, 4), (1, 0, 0),
                 (5, 0, 0)]
        for start, place, at in cases:
            for pieces in ([], [(0, 1, ALL, ())]):
                told = outcome(joined, LOG, pieces, place, start=start)
                self.assertEqual(told, ("NoPlace", {"at": at}), (start, place))
        self.assertEqual(outcome(joined, [], [], 1), ("NoPlace", {"at": 1}))
        self.assertEqual(outcome(joined, [], [], 0, start=1), ("NoPlace", {"at": 1}))

    def test_what_is_handed_in_stays_and_start_goes_by_its_name(self):
        pieces = [(1, 4, (0, 9), ((3, 3), (6, 1))), (0, 2, (0, 9), ((2, 1),))]
        log, handed = copy.deepcopy(LOG), copy.deepcopy(pieces)
        for place in range(6):
            once = joined(log, handed, place)
            self.assertEqual(joined(log, handed, place), once)
        self.assertEqual((log, handed), (LOG, pieces))
        self.assertRaises(TypeError, joined, LOG, pieces, 3, 0)

    def test_it_is_defined_in_joining(self):
        self.assertEqual(joined.__module__, "tidecopy.joining")
        self.assertIs(joining.joined, joined)


if __name__ == "__main__":
    unittest.main()
