"""Points 2, 3, 11 and 12: takers."""

import copy
import random
import unittest

from tests.models import ModelTaker, is_model_rows, outcome
from tests.things import ANYTHING, spoiled
from tidecopy import takers
from tidecopy.takers import Taker

ALL = (0, 1000)
HUGE = 10 ** 40 - 1
KEYS = (*range(40), 500, *range(980, 1000))
EDGES = (0, 1, 3, 5, 6, 12, 20, 30, 39, 500, 501, 985, 998, 999, 1000)
TOLD = ("life", "place", "rows", "sure", "events", "asked", "saved")
GROUP = ("group", (("put", 3, 1), ("drop", 5)))


def put(*rows):
    return ("group", tuple(("put", key, worth) for key, worth in rows))


def drop(*keys):
    return ("group", tuple(("drop", key) for key in keys))


def low(number, life=1):
    return ("low", life, number)


def high(number, life=1):
    return ("high", life, number)


def state(taker):
    """All that is told of a taker, as written."""
    return repr([getattr(taker, name)() for name in TOLD] + [len(taker)])


def taking(*entries, taker=None):
    taker = Taker(1) if taker is None else taker
    for entry in entries:
        taker.take(entry)
    return taker


def asking(*stretches):
    taker = Taker(1)
    for number, (first, last) in enumerate(stretches):
        taker.ask(number, first, last)
    return taker


class TakerCase(unittest.TestCase):
    def refused(self, taker, told, name, *args):
        """The refusal and its fields, and that nothing is changed by it."""
        ahead = state(taker)
        self.assertEqual(outcome(getattr(taker, name), *args), told, (name, args))
        self.assertEqual(state(taker), ahead)

    def told(self, taker, rows, sure, events, asked=()):
        self.assertEqual((taker.rows(), taker.sure(), taker.events(), taker.asked()), (rows, sure, events, list(asked)))
        self.assertEqual(taker.saved(), (taker.place(), rows, sure))
        self.assertEqual(len(taker), len(rows))


class Beginnings(TakerCase):
    def test_with_neither(self):
        taker = Taker(7)
        self.assertEqual((taker.life(), taker.place()), (7, 0))
        self.told(taker, (), (), [])
        self.assertEqual(taker.saved(), (0, (), ()))
        self.assertEqual(Taker(life=9).life(), 9)

    def test_with_a_place(self):
        for place in (0, 1, 400, HUGE):
            taker = Taker(3, place=place)
            self.assertEqual((taker.life(), taker.saved()), (3, (place, (), ())))
            self.assertEqual(Taker(place=place, life=3), taker)
            self.assertEqual(Taker(3, saved=None, place=place), taker)
        self.told(taking(GROUP, taker=Taker(3, place=8)), ((3, 1),), ((3, 4), (5, 6)),
                  [(9, "put", 3, 1), (9, "drop", 5, None)])

    def test_with_what_was_saved(self):
        many = tuple((key, key) for key in range(200, 700))
        for saved in ((0, (), ()), (4, (), ((0, 1000),)), (9, ((3, 1), (7, 0)), ((0, 4), (7, 8))), (2, (), ((5, 6),)),
                      (5, ((0, 0), (999, 999)), ((0, 1), (2, 998), (999, 1000))), (400, many, ((100, 800),)),
                      (1, many, ((0, 1000),)),
                      (3, (), tuple((key, key + 1) for key in range(0, 1000, 2)))):
            for place in (0, 77):
                taker = Taker(2, saved=saved, place=place)
                self.assertEqual(repr(taker.saved()), repr(saved))
                self.told(taker, saved[1], saved[2], [])
            self.assertEqual(Taker(2, saved=saved).saved(), saved)

    def test_what_was_saved_goes_on(self):
        taker = Taker(1, saved=(9, ((3, 1), (7, 0)), ((0, 4), (7, 8))))
        taker.ask(0, 0, 10)
        taking(low(0), drop(7), put((8, 8)), taker=taker)
        taker.answer(0, ((0, 5), (4, 4), (7, 7), (8, 9)))
        taker.take(high(0))
        self.told(taker, ((3, 1), (4, 4), (8, 8)), ((0, 10),),
                  [(11, "drop", 7, None), (12, "put", 8, 8), (13, "copy", 4, 4)])


class Groups(TakerCase):
    def test_each_change_in_order(self):
        taker = taking(GROUP)
        self.assertEqual(taker.place(), 1)
        self.told(taker, ((3, 1),), ((3, 4), (5, 6)), [(1, "put", 3, 1), (1, "drop", 5, None)])
        self.assertIs(taker.take(entry=put((4, 0), (0, 999), (999, 0))), None)
        self.told(taker, ((0, 999), (3, 1), (4, 0), (999, 0)), ((0, 1), (3, 6), (999, 1000)),
                  [(1, "put", 3, 1), (1, "drop", 5, None), (2, "put", 4, 0), (2, "put", 0, 999), (2, "put", 999, 0)])

    def test_a_key_twice_in_one_group(self):
        group = ("group", (("put", 3, 1), ("put", 3, 2), ("drop", 3), ("drop", 3), ("put", 3, 0), ("drop", 4)))
        self.told(taking(group), ((3, 0),), ((3, 5),),
                  [(1, "put", 3, 1), (1, "put", 3, 2), (1, "drop", 3, None), (1, "drop", 3, None), (1, "put", 3, 0),
                   (1, "drop", 4, None)])
        self.told(taking(put((3, 1)), ("group", (("put", 3, 2), ("drop", 3)))), (), ((3, 4),),
                  [(1, "put", 3, 1), (2, "put", 3, 2), (2, "drop", 3, None)])

    def test_the_same_worth_again_is_given_out_again(self):
        self.assertEqual(taking(put((1, 1)), put((1, 1))).events(), [(1, "put", 1, 1), (2, "put", 1, 1)])


class Marks(TakerCase):
    def test_a_piece_from_its_low_mark_to_its_high_mark(self):
        taker = asking((2, 6))
        self.assertEqual(repr(taker.asked()), repr([(0, (2, 6), False, False)]))
        taker.take(low(0))
        self.assertEqual(repr(taker.asked()), repr([(0, (2, 6), True, False)]))
        self.assertIs(taker.answer(0, ((3, 1), (5, 0))), None)
        self.assertEqual(repr(taker.asked()), repr([(0, (2, 6), True, True)]))
        self.assertIs(taker.take(high(0)), None)
        self.assertEqual(taker.place(), 2)
        self.told(taker, ((3, 1), (5, 0)), ((2, 6),), [(2, "copy", 3, 1), (2, "copy", 5, 0)])

    def test_marks_of_another_life_and_of_numbers_not_asked_for(self):
        taker = asking((0, 1000))
        taker.answer(0, ((1, 1),))
        taking(low(0, 2), high(0, 2), low(1), high(1), high(1, 2), low(HUGE, HUGE), taker=taker)
        self.assertEqual(taker.place(), 6)
        self.told(taker, (), (), [], [(0, ALL, False, True)])
        taking(low(0), high(0, 2), low(0, 2), high(1), taker=taker)
        self.told(taker, (), (), [], [(0, ALL, True, True)])
        taking(high(0), taker=taker)
        self.told(taker, ((1, 1),), (ALL,), [(11, "copy", 1, 1)])

    def test_high_without_low_gives_the_piece_up(self):
        for rows in (None, ((1, 1),)):
            taker = asking((0, 1000), (0, 5))
            if rows is not None:
                taker.answer(0, rows)
            taker.take(high(0))
            self.assertEqual(taker.place(), 1)
            self.told(taker, (), (), [], [(1, (0, 5), False, False)])
            taking(low(0), high(0), taker=taker)
            self.told(taker, (), (), [], [(1, (0, 5), False, False)])
            self.refused(taker, ("NotAsked", {"number": 0}), "answer", 0, ((1, 1),))
            self.refused(taker, ("NotAsked", {"number": 0}), "give_up", 0)
            self.refused(taker, ("Twice", {}), "ask", 0, 0, 5)

    def test_a_number_asked_for_behind_its_low_mark(self):
        taker = taking(low(0))
        taker.ask(0, 0, 1000)
        taker.answer(0, ((1, 1),))
        taking(put((2, 2)), high(0), taker=taker)
        self.told(taker, ((2, 2),), ((2, 3),), [(2, "put", 2, 2)])

    def test_marks_again_behind_a_piece_that_is_done(self):
        taker = asking((0, 3))
        taking(low(0), low(0), taker=taker)
        taker.answer(0, ((1, 1),))
        taking(high(0), high(0), low(0), high(0), taker=taker)
        self.assertEqual(taker.place(), 6)
        self.told(taker, ((1, 1),), ((0, 3),), [(3, "copy", 1, 1)])
        self.refused(taker, ("NotAsked", {"number": 0}), "answer", 0, ((1, 1),))

    def test_marks_behind_a_piece_that_is_given_up(self):
        for ahead in ((), (low(0),)):
            taker = taking(*ahead, taker=asking((0, 3)))
            taker.answer(0, ((1, 1),))
            self.assertIs(taker.give_up(0), None)
            self.assertEqual(taker.asked(), [])
            taking(low(0), high(0), taker=taker)
            self.assertEqual(taker.place(), 2 + len(ahead))
            self.told(taker, (), (), [])

    def test_rows_ahead_of_the_low_mark_between_the_marks_and_as_it_waits(self):
        for at in range(4):
            taker = asking((0, 3))
            for place, entry in enumerate((low(0), put((2, 2)), high(0))):
                if at == place:
                    taker.answer(0, ((1, 1), (2, 1)))
                if place == 2 and at > place:
                    self.refused(taker, ("Waits", {"number": 0}), "take", entry)
                    taker.answer(0, ((1, 1), (2, 1)))
                taker.take(entry)
            self.told(taker, ((1, 1), (2, 2)), ((0, 3),), [(2, "put", 2, 2), (3, "copy", 1, 1)])

    def test_it_waits_as_often_as_the_entry_is_tried(self):
        taker = taking(low(4), low(3), taker=asking((0, 3), (3, 5), (5, 6), (7, 8), (8, 9)))
        for at in range(5):
            self.refused(taker, ("Waits", {"number": 4}), "take", high(4))
            self.refused(taker, ("Waits", {"number": 3}), "take", high(3))
        self.assertEqual(taker.place(), 2)
        self.assertEqual(taker.asked()[3:], [(3, (7, 8), True, False), (4, (8, 9), True, False)])
        taker.answer(3, ())
        self.refused(taker, ("Waits", {"number": 4}), "take", high(4))
        taker.give_up(4)
        taker.take(high(4))
        taker.take(high(3))
        self.assertEqual((taker.place(), taker.sure()), (4, ((7, 8),)))

    def test_it_does_not_wait_at_another_lifes_mark(self):
        taker = taking(low(0), taker=asking((0, 3)))
        taking(high(0, 2), high(1), taker=taker)
        self.assertEqual(taker.place(), 3)

    def test_keys_changed_ahead_of_and_between_the_marks_are_not_copied(self):
        taker = taking(put((1, 1)), drop(2), low(0), put((3, 3)), drop(4), taker=asking((0, 7)))
        taker.answer(0, tuple((key, 9) for key in range(6)))
        given = taker.events()
        taker.take(high(0))
        self.told(taker, ((0, 9), (1, 1), (3, 3), (5, 9)), ((0, 7),), given + [(6, "copy", 0, 9), (6, "copy", 5, 9)])

    def test_what_is_copied_is_not_copied_again(self):
        taker = taking(low(0), low(1), taker=asking((0, 4), (2, 8)))
        taker.answer(1, ((2, 1), (6, 1)))
        taker.answer(0, ((1, 2), (2, 2), (3, 2)))
        taking(high(1), high(0), put((0, 5)), taker=taker)
        self.told(taker, ((0, 5), (1, 2), (2, 1), (6, 1)), ((0, 8),),
                  [(3, "copy", 2, 1), (3, "copy", 6, 1), (4, "copy", 1, 2), (5, "put", 0, 5)])

    def test_a_piece_without_rows(self):
        taker = taking(low(0), taker=asking((0, 1000)))
        taker.answer(0, ())
        taker.take(high(0))
        self.told(taker, (), (ALL,), [])
        self.assertIs(taker.worth(999), None)

    def test_more_than_a_hundred_rows(self):
        rows = tuple((key, key) for key in range(250, 750))
        taker = taking(low(0), taker=asking((0, 1000)))
        taker.answer(0, rows)
        taking(high(0), put((0, 0)), taker=taker)
        self.told(taker, ((0, 0),) + rows, (ALL,),
                  [(2, "copy", key, worth) for key, worth in rows] + [(3, "put", 0, 0)])


class Asking(TakerCase):
    def test_what_is_asked_for(self):
        taker = Taker(1)
        self.assertIs(taker.ask(7, 0, 1000), None)
        self.assertIs(taker.ask(last=6, first=5, number=2), None)
        taker.ask(0, 999, 1000)
        taker.ask(HUGE, 0, 1)
        self.assertIs(taker.answer(rows=((5, 5),), number=2), None)
        taker.take(low(7))
        self.assertEqual(repr(taker.asked()), repr([
            (0, (999, 1000), False, False), (2, (5, 6), False, True), (7, ALL, True, False), (HUGE, (0, 1), False, False)]))
        self.assertIs(taker.give_up(number=2), None)
        self.assertEqual([row[0] for row in taker.asked()], [0, 7, HUGE])

    def test_twice_of_a_number_asked_for_ever_then_no_stretch(self):
        taker = taking(low(0), high(1), low(3), taker=asking((0, 3), (0, 3), (0, 3), (0, 3)))
        taker.answer(0, ())
        taker.take(high(0))
        taker.give_up(2)
        for number in range(4):
            for first, last in ((0, 3), (4, 9), (0, 0), (-1, 1001)):
                self.refused(taker, ("Twice", {}), "ask", number, first, last)
        for first, last in ((0, 0), (-1, 5), (5, 5), (6, 5), (0, 1001), (1000, 1000), (1000, 1001), (-2, -1), (0, HUGE),
                            (-HUGE, 0), (HUGE, -HUGE)):
            self.refused(taker, ("NoStretch", {}), "ask", 4, first, last)
        taker.ask(4, 0, 1)
        self.assertEqual([row[0] for row in taker.asked()], [3, 4])

    def test_answers_refused(self):
        taker = asking((0, 3), (3, 8))
        taker.answer(0, ())
        for number in (2, -1, HUGE, -HUGE):
            for rows in ((), None, ((0, 0),)):
                self.refused(taker, ("NotAsked", {"number": number}), "answer", number, rows)
        for rows in ((), None, ((0, 0),), ((9, 9),)):
            self.refused(taker, ("Twice", {}), "answer", 0, rows)
        for rows in (((2, 0),), ((8, 0),), ((3, 1), (3, 1)), ((5, 1), (4, 1)), ((3, 1000),), ((3, -1),), [], [(3, 1)],
                     ([3, 1],), ((3,),), ((3, 1, 1),), (3, 1), ((True, 1),), ((3, True),), ((3, None),), (("3", 1),), None):
            self.refused(taker, ("NoRows", {}), "answer", 1, rows)
        taker.answer(1, ((3, 0), (7, 999)))
        self.refused(taker, ("Twice", {}), "answer", 1, ((3, 0), (7, 999)))

    def test_rows_of_anything(self):
        good = ((0, 0), (3, 999), (5, 1))
        for first, last in ((0, 6), (0, 1000), (0, 5), (1, 6), (999, 1000)):
            for thing in [*ANYTHING, good, *spoiled(good)]:
                taker = asking((first, last))
                if is_model_rows(thing, first, last):
                    self.assertIs(taker.answer(0, thing), None)
                    self.assertEqual(taker.asked(), [(0, (first, last), False, True)])
                else:
                    self.refused(taker, ("NoRows", {}), "answer", 0, thing)

    def test_given_up(self):
        taker = asking((0, 3), (0, 3))
        taker.give_up(1)
        for number in (1, 2, -1, HUGE):
            self.refused(taker, ("NotAsked", {"number": number}), "give_up", number)
            self.refused(taker, ("NotAsked", {"number": number}), "answer", number, ())


class Telling(TakerCase):
    def test_worths(self):
        taker = taking(put((0, 7), (999, 0)), drop(3), low(0), taker=asking((4, 6)))
        taker.answer(0, ((5, 1),))
        self.refused(taker, ("NotSure", {"key": 5}), "worth", 5)
        taker.take(high(0))
        self.assertEqual([taker.worth(key) for key in (0, 999, 3, 4)], [7, 0, None, None])
        self.assertEqual(taker.worth(key=5), 1)
        for key in (1, 2, 6, 998):
            self.refused(taker, ("NotSure", {"key": key}), "worth", key)
        for key in (-1, 1000, HUGE, -HUGE):
            self.refused(taker, ("NoKey", {"key": key}), "worth", key)
            self.refused(Taker(1), ("NoKey", {"key": key}), "worth", key)

    def test_begun_with_what_is_saved(self):
        taker = taking(put((0, 7), (999, 0)), drop(3), low(0), taker=asking((4, 6), (7, 9)))
        taker.answer(0, ((5, 1),))
        for step in (None, high(0), put((6, 6))):
            if step is not None:
                taker.take(step)
            other = Taker(5, saved=taker.saved())
            self.assertEqual(other, taker)
            self.assertEqual((other.life(), other.place(), len(other)), (5, taker.place(), len(taker)))
            self.told(other, taker.rows(), taker.sure(), [])
            other.ask(0, 0, 1)
            other.take(put((0, 1)))
            self.assertNotEqual(other, taker)

    def test_lengths(self):
        self.assertEqual(len(Taker(1)), 0)
        self.assertEqual(len(taking(put((1, 1), (2, 0)), drop(1, 5))), 1)

    def test_equal_where_place_rows_and_sure_stretches_are(self):
        saved = (3, ((1, 1),), ((1, 3),))
        taker = Taker(1, saved=saved)
        self.assertIs(taker == Taker(2, place=9, saved=saved), True)
        self.assertIs(taker != Taker(2, saved=saved), False)
        self.assertIs(taker == taker, True)
        for other in ((4, ((1, 1),), ((1, 3),)), (3, ((1, 0),), ((1, 3),)), (3, ((2, 1),), ((1, 3),)), (3, (), ((1, 3),)),
                      (3, ((1, 1),), ((1, 2),)), (3, ((1, 1),), ((0, 3),))):
            self.assertIs(taker == Taker(1, saved=other), False)
            self.assertIs(taker != Taker(1, saved=other), True)
        asks = Taker(1, saved=saved)
        asks.ask(0, 0, 9)
        self.assertIs(taker == asks, True)
        self.assertIs(taking(put((1, 1))) == Taker(4, saved=(1, ((1, 1),), ((1, 2),))), True)

    def test_nothing_else_is_equal(self):
        class Alike:
            def saved(self):
                return (0, (), ())

        for thing in [*ANYTHING, Alike(), object(), (0, (), ()), 0, {}, set(), b""]:
            self.assertIs(Taker(1) == thing, False)
            self.assertIs(thing == Taker(1), False)
            self.assertIs(Taker(1) != thing, True)

    def test_lists_are_the_askers_own(self):
        taker = taking(put((1, 1)), low(0), taker=asking((0, 3), (3, 5)))
        ahead = state(taker)
        for ask in (taker.events, taker.asked):
            told = ask()
            written = repr(told)
            other = ask()
            other.append("more")
            other.reverse()
            self.assertEqual((repr(told), repr(ask())), (written, written))
        self.assertEqual(state(taker), ahead)
        told = [taker.events(), taker.asked(), taker.saved()]
        written = repr(told)
        taker.answer(0, ((0, 1),))
        taking(high(0), put((5, 5)), taker=taker)
        taker.give_up(1)
        self.assertEqual(repr(told), written)

    def test_the_very_same_rows_are_each_ones_own(self):
        rows, saved = ((0, 1), (2, 2)), (3, ((5, 5),), ((4, 6),))
        handed = copy.deepcopy((rows, saved))
        one, other = Taker(1, saved=saved), Taker(1, saved=saved)
        for taker in (one, other):
            taker.ask(0, 0, 9)
            taker.answer(0, rows)
        taking(low(0), high(0), put((0, 9), (5, 0)), drop(2), taker=one)
        taking(low(0), high(0), taker=other)
        self.assertEqual((one.rows(), other.rows()), (((0, 9), (5, 0)), ((0, 1), (2, 2), (5, 5))))
        self.assertEqual((one.place(), other.place()), (7, 5))
        self.assertEqual((rows, saved), handed)

    def test_it_is_defined_in_takers(self):
        self.assertEqual(Taker.__module__, "tidecopy.takers")
        self.assertIs(takers.Taker, Taker)
        for name in ("take ask answer give_up life place rows sure worth events asked saved __len__ __eq__").split():
            self.assertIn(name, vars(Taker))
        self.assertRaises(TypeError, Taker, 1, 0)


def some_rows(chance, first, last):
    rows = tuple((key, chance.randrange(1000)) for key in KEYS if first <= key < last and chance.randrange(2))
    return chance.choice((rows[::-1], list(rows), rows + ((1000, 0),), None)) if chance.randrange(6) == 0 else rows


def some_entry(chance, number):
    if chance.randrange(4):
        return (chance.choice(("low", "high")), chance.choice((1, 1, 1, 2)), max(0, number))
    changes = []
    for at in range(chance.randint(1, 3)):
        key = chance.choice(KEYS)
        changes.append(chance.choice((("drop", key), ("put", key, chance.randrange(1000)))))
    return ("group", tuple(changes))


def some_step(chance, taker):
    """The name and arguments of something to be done to the taker, now and then refused."""
    number = chance.randint(max(-1, len(taker.numbers) - 4), len(taker.numbers))
    first, last = sorted(chance.sample(EDGES, 2))
    stretch = taker.numbers.get(number, {"stretch": (0, 1000)})["stretch"]
    return chance.choice((
        ("ask", number, first, last), ("ask", len(taker.numbers), first, last + (chance.randrange(9) == 0)),
        ("answer", number, some_rows(chance, *stretch)), ("answer", number, some_rows(chance, *stretch)),
        ("give_up", number) if chance.randrange(5) == 0 else ("take", ("low", 1, max(0, number))),
        ("take", some_entry(chance, number)), ("take", some_entry(chance, number)), ("take", some_entry(chance, number)),
        ("worth", chance.choice((-1, 0, 1, 500, 999, 1000)))))


class AgainstAModel(TakerCase):
    def test_drawn_steps(self):
        chance = random.Random(31)
        seen = set()
        copies = 0
        for run in range(60):
            taker, model = Taker(1, place=run), ModelTaker(1, place=run)
            for at in range(60):
                name, *args = some_step(chance, model)
                ahead = state(taker)
                told = outcome(getattr(taker, name), *args)
                self.assertEqual(told, outcome(getattr(model, name), *args), (name, args))
                self.assertEqual(state(taker), state(model))
                if isinstance(told, tuple):
                    seen.add(told[0])
                    self.assertEqual(state(taker), ahead)
            copies += len([event for event in taker.events() if event[1] == "copy"])
            self.assertEqual(state(Taker(1, saved=taker.saved())), state(ModelTaker(1, saved=model.saved())))
        self.assertEqual(seen, {"Waits", "Twice", "NoStretch", "NotAsked", "NoRows", "NoKey", "NotSure"})
        self.assertGreater(copies, 100)


if __name__ == "__main__":
    unittest.main()
