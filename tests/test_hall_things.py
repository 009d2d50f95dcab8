"""Points 2 and 15: what a hall does is counted, done together, taken back, and compared."""

import random
import unittest

from tests.hall_steps import some_step
from tests.model_hall import OF_HALL, OF_TAKER, ModelHall, hall_state
from tests.models import outcome
from tests.test_hall import ALL, HUGE, PUT, READ, TABLE, WAYS, with_steps
from tests.things import ANYTHING
from tidecopy.hall import Hall

# Each step done somewhere behind these.
AHEAD = (*READ, ("join", "bob"), ("ask", "bob", 0, 5), ("look", 1, 1), ("ask", "bob", 5, 9), ("look", 2, 50),
         ("take", "ann", 1))
EACH = (("join", "cid"), ("fall", "ann"), ("save", "ann"), ("change", PUT), ("ask", "ann", 0, 5), ("look", 1, 3),
        ("finish", 2), ("stop", 1), ("deliver", 0), ("lose", 0), ("take", "ann", 1), ("yield", "ann", 0), ("trim",))
# Each refusal behind the same.
REFUSED = (
    (("join", "Cid"), ("NoName", {})), (("join", "ann"), ("Twice", {})), (("fall", "cid"), ("NoTaker", {"name": "cid"})),
    (("save", "cid"), ("NoTaker", {"name": "cid"})), (("change", ()), ("NoChange", {})),
    (("ask", "cid", 0, 5), ("NoTaker", {"name": "cid"})), (("ask", "ann", 5, 5), ("NoStretch", {})),
    (("look", 0, 51), ("NoPlace", {"at": 51})), (("look", 0, 5), ("NoReading", {"number": 0})),
    (("look", 2, 5), ("Ended", {})), (("finish", 0), ("NoReading", {"number": 0})), (("finish", 1), ("NotEnded", {})),
    (("stop", 0), ("NoReading", {"number": 0})), (("deliver", 1), ("NotOnWire", {"number": 1})),
    (("lose", 1), ("NotOnWire", {"number": 1})), (("take", "ann", 0), ("NoPlace", {"at": 0})),
    (("take", "cid", 1), ("NoTaker", {"name": "cid"})), (("yield", "cid", 0), ("NoTaker", {"name": "cid"})),
    (("yield", "ann", 1), ("NotAsked", {"number": 1})),
)

class Most(unittest.TestCase):
    def full(self, most):
        """A hall that did all that it does."""
        hall = Hall(TABLE, most=most)
        hall.together(AHEAD)
        for at in range(most - 1):
            hall.trim()
        return hall

    def test_so_many_things(self):
        for most in (1, 2, 300):
            hall = self.full(most)
            before = hall_state(hall)
            for step in EACH:
                for way in WAYS:
                    self.assertEqual(outcome(way, hall, step), ("TooMany", {"many": most}))
                    self.assertIs(hall.busy, False)
            self.assertEqual(outcome(hall.together, []), ("TooMany", {"many": most}))
            self.assertEqual(outcome(hall.together, list(EACH[2:9])), ("TooMany", {"many": most}))
            self.assertEqual(hall_state(hall), before)

    def test_the_default(self):
        hall = Hall(TABLE)
        for at in range(300):
            self.assertEqual(hall.trim(), 0)
        self.assertEqual(outcome(hall.trim), ("TooMany", {"many": 300}))

    def test_behind_the_other_refusals(self):
        for most in (1, 2, 300):
            hall = self.full(most)
            before = hall_state(hall)
            for step, told in REFUSED:
                for way in WAYS:
                    self.assertEqual(outcome(way, hall, step), told)
                self.assertEqual(outcome(hall.together, [("trim",), step]), told)
            more = tuple(("put", 100 + key, 0) for key in range(6))
            hall = Hall(tuple((key, 0) for key in range(98)), most=1)
            hall.trim()
            self.assertEqual(outcome(hall.change, more), ("TooMany", {"many": 104}))
            self.assertEqual(outcome(hall.change, more[:2]), ("TooMany", {"many": 1}))
            self.assertEqual(before, hall_state(self.full(most)))

    def test_those_taken_back_are_not_counted(self):
        for most in (1, 2, 300):
            hall = self.full(most)
            for at in range(3):
                for again in range(most):
                    hall.take_back()
                self.assertEqual(outcome(hall.take_back), ("NothingLeft", {}))
                hall.together(AHEAD)
                for step in EACH[:most - 1]:
                    hall.do(step)
                    hall.take_back()
                for again in range(most - 1):
                    hall.trim()
                self.assertEqual(outcome(hall.trim), ("TooMany", {"many": most}))

    def test_those_refused_are_not_counted(self):
        hall = Hall(TABLE, most=2)
        for at in range(5):
            self.assertEqual(outcome(hall.fall, "ann"), ("NoTaker", {"name": "ann"}))
            self.assertEqual(outcome(hall.together, [("join", "ann"), ("join", "ann")]), ("Twice", {}))
        hall.join("ann")
        hall.join("bob")
        self.assertEqual(outcome(hall.join, "cid"), ("TooMany", {"many": 2}))
        self.assertEqual(outcome(hall.join, "bob"), ("Twice", {}))

    def test_what_is_only_told_is_not_counted(self):
        hall = Hall(TABLE, most=1)
        for at in range(5):
            hall_state(hall)
            len(hall)
            hall == Hall()
        hall.join("ann")
        hall_state(hall)
        hall.take_back()
        self.assertEqual(outcome(hall.take_back), ("NothingLeft", {}))


class Together(unittest.TestCase):
    def test_none(self):
        hall = Hall(TABLE, most=2)
        self.assertEqual(hall.together([]), [])
        self.assertEqual(hall.together(steps=[]), [])
        self.assertEqual(outcome(hall.together, []), ("TooMany", {"many": 2}))
        self.assertEqual(hall, Hall(TABLE))
        hall.take_back()
        hall.take_back()
        self.assertEqual(outcome(hall.take_back), ("NothingLeft", {}))

    def test_answers(self):
        steps = [*READ, ("deliver", 0), ("take", "ann", 50), ("save", "ann"), ("trim",)]
        hall = Hall(TABLE)
        rows = ((0, 5), (4, 6), (7, 7), (20, 1), (999, 8))
        self.assertEqual(hall.together(steps), [None, 0, TABLE[:2], None, rows[2:], rows, None, 3, None, 3])
        self.assertEqual(hall, with_steps(*steps))
        hall.take_back()
        self.assertEqual(hall, Hall(TABLE))

    def test_a_hundred(self):
        steps = [("join", "ann"), *[("change", (("put", at, at),)) for at in range(49)], *[("take", "ann", 1)] * 50]
        hall = Hall(most=1)
        self.assertEqual(hall.together(steps), [None] * 50 + [1] * 49 + [0])
        self.assertEqual((hall.place("ann"), len(hall), hall.busy), (49, 49, False))
        self.assertEqual(outcome(hall.trim), ("TooMany", {"many": 1}))
        hall.take_back()
        self.assertEqual(hall, Hall())

    def test_refused_at_each_place(self):
        for step, told in REFUSED:
            for at in range(3):
                hall = with_steps(*AHEAD)
                before = hall_state(hall)
                steps = [("join", "dan"), ("change", PUT), ("ask", "dan", 0, 9)]
                steps.insert(at, step)
                handed = list(steps)
                self.assertEqual(outcome(hall.together, steps), told)
                self.assertEqual((hall_state(hall), hall.busy, steps), (before, False, handed))
                self.assertEqual(hall, with_steps(*AHEAD))
                self.assertEqual((hall.ask("bob", 0, 1), hall.join("dan"), hall.holds()[-1][0]), (3, None, 3))

    def test_the_first_refusal_goes_out(self):
        hall = Hall(TABLE)
        self.assertEqual(outcome(hall.together, [("join", "ann"), ("look", 3, 5), ("join", "ann"), ("take", "b", 0)]),
                         ("NoReading", {"number": 3}))
        self.assertEqual(hall.names(), [])

    def test_behind_what_a_step_ahead_did(self):
        hall = Hall(TABLE)
        self.assertEqual(outcome(hall.together, [("join", "ann"), ("join", "ann")]), ("Twice", {}))
        self.assertEqual(outcome(hall.together, [("trim",), ("fall", "ann"), ("join", "ann")]), ("NoTaker", {"name": "ann"}))
        self.assertEqual(hall.together([("join", "ann"), ("fall", "ann"), ("ask", "ann", 0, 1)]), [None, None, 0])
        self.assertEqual(hall.entries(0), [("low", 2, 0)])

    def test_the_list_handed_in_is_not_kept(self):
        hall = Hall(TABLE)
        steps = [("join", "ann")]
        told = hall.together(steps)
        steps.append(("join", "bob"))
        told.append("more")
        hall.together(steps[1:])
        hall.take_back()
        self.assertEqual(hall, with_steps(("join", "ann")))


class TakingBack(unittest.TestCase):
    def test_nothing_left(self):
        hall = Hall(TABLE)
        for at in range(2):
            self.assertEqual(outcome(hall.take_back), ("NothingLeft", {}))
        for at in range(3):
            hall.join("ann")
            self.assertIs(hall.take_back(), None)
            self.assertEqual(outcome(hall.take_back), ("NothingLeft", {}))
            self.assertEqual(hall, Hall(TABLE))

    def test_each_step_behind_others(self):
        for step in EACH:
            hall = with_steps(*AHEAD)
            before = hall_state(hall)
            answer = hall.do(step)
            behind = hall_state(hall)
            for at in range(3):
                hall.take_back()
                self.assertEqual(hall_state(hall), before)
                self.assertEqual(hall, with_steps(*AHEAD))
                self.assertEqual(hall.do(step), answer)
                self.assertEqual(hall_state(hall), behind)
                self.assertEqual(hall, with_steps(*AHEAD, step))

    def test_to_the_very_first(self):
        hall, states = Hall(TABLE), []
        steps = [*AHEAD, *EACH[:4], ("take", "bob", 9), *EACH[-2:]]
        for step in steps:
            states.append(hall_state(hall))
            if outcome(hall.do, step)[0] == "NotAsked":
                states.pop()
        while states:
            hall.take_back()
            self.assertEqual(hall_state(hall), states.pop())
        self.assertEqual(outcome(hall.take_back), ("NothingLeft", {}))
        self.assertEqual(hall, Hall(TABLE))

    def test_lives_and_numbers_given_next(self):
        hall = with_steps(*AHEAD)
        for step in (("join", "cid"), ("fall", "ann"), ("ask", "ann", 0, 9)):
            hall.do(step)
            hall.take_back()
            self.assertEqual(hall.ask("ann", 3, 4), 3)
            self.assertEqual((hall.join("dan"), hall.holds()[-1]), (None, (3, hall.places()[1])))
            hall.take_back()
            hall.take_back()
            self.assertEqual(hall, with_steps(*AHEAD))

    def test_three_hundred_things(self):
        hall = Hall(TABLE)
        for at in range(300):
            hall.change((("put", 1, at),))
        self.assertEqual(outcome(hall.trim), ("TooMany", {"many": 300}))
        for at in reversed(range(300)):
            self.assertEqual(hall.table()[1], (1, at))
            hall.take_back()
        self.assertEqual(outcome(hall.take_back), ("NothingLeft", {}))

    def test_another_way_behind_it(self):
        hall = with_steps(*READ, ("deliver", 0), ("take", "ann", 50))
        hall.take_back()
        hall.take_back()
        hall.lose(0)
        hall.take("ann", many=50)
        self.assertEqual(hall, with_steps(*READ, ("lose", 0), ("take", "ann", 50)))
        self.assertEqual(hall.asked("ann"), [(0, ALL, True, False)])


class Equal(unittest.TestCase):
    def differ(self, one, other):
        self.assertIs(one == other, False)
        self.assertIs(other == one, False)
        self.assertIs(one != other, True)

    def same(self, one, other):
        self.assertIs(one == other, True)
        self.assertIs(other == one, True)
        self.assertIs(one != other, False)

    def test_told_the_same(self):
        self.same(Hall(), Hall(()))
        self.same(Hall(TABLE, most=3), Hall(TABLE))
        for many in range(len(AHEAD) + 1):
            self.same(with_steps(*AHEAD[:many]), with_steps(*AHEAD[:many]))
            other = Hall(TABLE)
            other.together(list(AHEAD[:many]))
            self.same(with_steps(*AHEAD[:many]), other)
        hall = with_steps(*AHEAD)
        self.same(hall, hall)

    def test_told_the_same_by_other_ways(self):
        self.same(with_steps(("trim",)), Hall(TABLE))
        self.same(with_steps(("join", "a"), ("save", "a")), with_steps(("join", "a"), ("take", "a", 9)))
        self.same(with_steps(*READ[:2], ("look", 0, 2), ("look", 0, 1)), with_steps(*READ[:2], ("look", 0, 3)))

    def test_told_otherwise_in_one_thing(self):
        hall = with_steps(*AHEAD)
        self.same(hall, with_steps(*AHEAD, EACH[-1]))
        for step in EACH[:-1]:
            self.differ(hall, with_steps(*AHEAD, step))
        self.differ(Hall(), Hall(((0, 0),)))
        self.differ(Hall(((0, 1),)), Hall(((0, 0),)))

    def test_by_entries_places_and_tables(self):
        one = with_steps(("change", (("put", 0, 5),)))
        self.differ(one, Hall(TABLE))
        self.differ(one, with_steps(("change", (("put", 4, 6),))))
        self.differ(one, with_steps(("change", (("put", 0, 5),)), ("trim",)))
        self.same(with_steps(("change", (("put", 0, 5),)), ("trim",)), with_steps(("change", (("put", 4, 6),)), ("trim",)))

    def test_by_what_a_taker_has_gave_out_asks_for_and_saved(self):
        ahead = (("join", "a"), ("change", PUT))
        self.differ(with_steps(*ahead), with_steps(*ahead, ("take", "a", 1)))
        self.differ(with_steps(*ahead, ("take", "a", 1)), with_steps(*ahead, ("take", "a", 1), ("save", "a")))
        self.differ(with_steps(("join", "a")), with_steps(("join", "b")))
        self.differ(with_steps(*READ), with_steps(*READ, ("yield", "ann", 0)))
        saved = (*ahead, ("take", "a", 1), ("save", "a"), ("fall", "a"), ("fall", "a"))
        self.differ(with_steps(*saved), with_steps(*saved[:-1]))

    def but_for(self, one, other, *names):
        """That just these things are told otherwise of the only taker of both."""
        for ask in OF_HALL:
            self.assertEqual(getattr(one, ask)(), getattr(other, ask)())
        name = one.names()[0]
        told = [ask for ask in OF_TAKER if getattr(one, ask)(name) != getattr(other, ask)(name)]
        self.assertEqual(tuple(told), names)
        self.differ(one, other)

    def test_by_events_alone(self):
        change = ("change", (("put", 0, 5),))
        self.but_for(with_steps(("join", "a"), change, ("take", "a", 1), ("save", "a"), ("fall", "a")),
                     with_steps(("join", "a"), change, ("fall", "a"), ("take", "a", 1), ("save", "a")), "events")

    def test_by_what_is_asked_for_alone(self):
        self.but_for(with_steps(*READ), with_steps(*READ, ("yield", "ann", 0)), "asked")
        self.but_for(with_steps(*READ, ("lose", 0)), with_steps(*READ, ("deliver", 0)), "asked")

    def test_by_how_many_readings_were_given_alone(self):
        """Both logs are trimmed to place 2, and no reading is open: one was given in one hall, none in the other."""
        change = ("change", (("put", 0, 5),))
        end = (("take", "a", 9), ("save", "a"), ("trim",), ("fall", "a"))
        self.but_for(with_steps(("join", "a"), change, ("ask", "a", 0, 1), ("stop", 0), *end),
                     with_steps(("join", "a"), change, change, *end))

    def test_by_the_wire_readings_and_holds(self):
        self.differ(with_steps(*READ), with_steps(*READ, ("lose", 0)))
        self.differ(with_steps(*READ[:2], ("look", 0, 1)), with_steps(*READ[:2], ("look", 0, 2)))
        self.differ(with_steps(*READ[:2], ("look", 0, 4)), with_steps(*READ[:2], ("look", 0, 5)))
        looks = (("look", 0, 9), ("change", PUT))
        self.differ(with_steps(*READ[:2], *looks, ("finish", 0)), with_steps(*READ[:2], *looks[::-1], ("finish", 0)))

    def test_by_how_many_lives_were_given(self):
        self.differ(with_steps(("join", "a"), ("fall", "a")), with_steps(("join", "a")))
        self.differ(with_steps(("join", "a"), ("fall", "a")), with_steps(("join", "a"), ("fall", "a"), ("fall", "a")))

    def test_nothing_else_is_equal(self):
        class Alike:
            scene = Hall().scene

        for thing in [*ANYTHING, Alike(), object(), (), 0, {}, set(), b""]:
            self.differ(Hall(), thing)

    def test_len(self):
        self.assertEqual((len(Hall()), len(Hall(TABLE)), len(with_steps(*AHEAD))), (0, 4, 5))
        self.assertEqual(len(Hall(tuple((key, 0) for key in range(100)))), 100)
        hall = with_steps(("change", (("drop", 0), ("drop", 4), ("drop", 5))))
        self.assertEqual(len(hall), 2)
        hall.take_back()
        self.assertEqual(len(hall), 4)


class Own(unittest.TestCase):
    def test_lists_are_the_askers_own(self):
        hall = with_steps(*AHEAD, ("change", PUT), ("take", "ann", 9))
        asks = [getattr(hall, ask) for ask in OF_HALL]
        asks += [lambda ask=ask, name=name: getattr(hall, ask)(name) for ask in OF_TAKER for name in ("ann", "bob")]
        asks += [lambda: hall.entries(0), lambda: hall.entries(2, many=400), lambda: hall.entries(hall.places()[1])]
        before, lists = hall_state(hall), 0
        for ask in asks:
            told = ask()
            if isinstance(told, list):
                lists += 1
                written, other = repr(told), ask()
                other.append("more")
                other.reverse()
                self.assertEqual((repr(told), repr(ask())), (written, written))
                told.clear()
                self.assertEqual((repr(ask()), hall_state(hall)), (written, before))
        self.assertEqual(lists, 4 + 4 + 3)

    def test_what_was_told_is_not_changed_by_what_is_done(self):
        hall = with_steps(*AHEAD)
        told = [hall.names(), hall.wire(), hall.holds(), hall.readings(), hall.entries(0), hall.events("ann"),
                hall.asked("ann"), hall.asked("bob")]
        written = repr(told)
        for step in EACH:
            outcome(hall.do, step)
        for at in range(8):
            hall.take_back()
        self.assertEqual(repr(told), written)

    def test_two_halls_beside_one_another(self):
        chance, other_chance = random.Random(71), random.Random(72)
        one, other = Hall(TABLE), Hall(TABLE)
        alone, other_alone = ModelHall(TABLE), ModelHall(TABLE)
        for at in range(120):
            for hall, model, drawn in ((one, alone, chance), (other, other_alone, other_chance)):
                step = some_step(drawn, model)
                self.assertEqual(outcome(hall.do, step), outcome(model.do, step))
            self.assertEqual((hall_state(one), hall_state(other)), (hall_state(alone), hall_state(other_alone)))

    def test_the_same_table_and_steps_handed_to_two(self):
        table, changes = (*TABLE,), (*PUT,)
        steps = [("join", "ann"), ("change", changes), ("ask", "ann", 0, 9)]
        one, other = Hall(table), Hall(table)
        one.together(steps)
        self.assertEqual(other, Hall(TABLE))
        other.together(steps)
        one.change((("drop", 4),))
        self.assertEqual(other, with_steps(*steps))

    def test_forty_figures(self):
        hall = with_steps(*AHEAD)
        for number in (HUGE, -HUGE):
            for word in ("look", "finish", "stop"):
                self.assertEqual(outcome(getattr(hall, word), number), ("NoReading", {"number": number}))
            for word in ("deliver", "lose"):
                self.assertEqual(outcome(getattr(hall, word), number), ("NotOnWire", {"number": number}))


if __name__ == "__main__":
    unittest.main()
