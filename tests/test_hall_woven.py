"""Points 3, 13, 14 and 15: halls woven by drawn but fixed orders of steps of all kinds."""

import random
import unittest

from tests.hall_steps import KEYS, some_step
from tests.model_hall import ModelHall, hall_state
from tests.models import model_stretches, outcome
from tests.things import model_table_at
from tidecopy.events import first_wrong
from tidecopy.hall import Hall
from tidecopy.readings import moments, odd
from tidecopy.tables import is_log

REFUSALS = {"NoName", "Twice", "NoTaker", "NoChange", "NoStretch", "NoPlace", "NoReading", "NotOnWire", "NotAsked"}


def keys_of(stretches):
    return {key for first, last in stretches for key in range(first, last)}


def some_table(chance):
    return tuple((key, chance.randrange(1000)) for key in KEYS if chance.randrange(2))


class AgainstAModel(unittest.TestCase):
    def test_steps_of_all_kinds_one_by_one(self):
        chance, seen, kinds = random.Random(51), set(), {}
        for run in range(40):
            table = some_table(chance)
            hall, model = Hall(table), ModelHall(table)
            for at in range(90):
                step, before = some_step(chance, model), hall_state(hall)
                told = outcome(hall.do, step)
                self.assertEqual(told, outcome(model.do, step), step)
                self.assertEqual(hall_state(hall), hall_state(model), step)
                if isinstance(told, tuple):
                    seen.add(told[0])
                    self.assertEqual(hall_state(hall), before)
                else:
                    kinds[step[0]] = kinds.get(step[0], 0) + 1
        self.assertGreaterEqual(seen, REFUSALS)
        self.assertEqual(len(kinds), 13)
        self.assertGreater(min(kinds.values()), 15, kinds)

    def test_together_and_taken_back(self):
        chance, backs, refused = random.Random(52), 0, set()
        for run in range(30):
            table, most = some_table(chance), chance.choice((3, 9, 300))
            hall, model = Hall(table, most=most), ModelHall(table, most=most)
            for at in range(40):
                if chance.randrange(3) == 0:
                    told = outcome(hall.take_back)
                    self.assertEqual(told, outcome(model.take_back))
                    backs += told == "None"
                else:
                    steps = [some_step(chance, model) for step in range(chance.randint(0, 3))]
                    told = outcome(hall.together, steps)
                    self.assertEqual(told, outcome(model.together, steps), steps)
                if isinstance(told, tuple):
                    refused.add(told[0])
                self.assertEqual(hall_state(hall), hall_state(model))
        self.assertGreater(backs, 100)
        self.assertGreaterEqual(refused, {"TooMany", "NothingLeft", "NoTaker"})

    def test_many_at_once_or_one_by_one_come_to_the_same(self):
        chance, many = random.Random(53), 0
        for run in range(40):
            table = some_table(chance)
            plan, one = ModelHall(table), Hall(table)
            steps, answers = [], []
            while len(steps) < 60:
                step = some_step(chance, plan)
                told = outcome(plan.do, step)
                if isinstance(told, str):
                    steps.append(step)
                    answers.append(one.do(step))
            other, behind = Hall(table), []
            while steps:
                cut = chance.randint(1, len(steps))
                behind += other.together(steps[:cut])
                steps = steps[cut:]
                many += cut
            self.assertEqual(behind, answers)
            self.assertEqual(one, other)
            self.assertEqual(hall_state(one), hall_state(other))
        self.assertEqual(many, 2400)

    def test_what_was_taken_back_was_never_done(self):
        chance, backs = random.Random(54), 0
        for run in range(30):
            table = some_table(chance)
            hall, plain = Hall(table), Hall(table)
            for at in range(60):
                step = some_step(chance, hall)
                for again in range(chance.randint(0, 3)):
                    aside = [some_step(chance, hall) for other in range(chance.randint(1, 3))]
                    if isinstance(outcome(hall.together, aside), str):
                        hall.take_back()
                        backs += 1
                self.assertEqual(outcome(hall.do, step), outcome(plain.do, step))
                self.assertEqual(hall, plain)
            self.assertEqual(hall_state(hall), hall_state(plain))
            while not isinstance(outcome(hall.take_back), tuple):
                pass
            self.assertEqual(hall, Hall(table))
        self.assertGreater(backs, 500)


class Watched:
    """A hall, its whole log, the table behind each entry, and where the life of each taker began."""

    def __init__(self, test, seed):
        self.test, self.chance = test, random.Random(seed)
        self.table = some_table(self.chance)
        self.hall, self.log, self.tables = Hall(self.table), [], [self.table]
        self.began, self.stretches, self.finished = {}, {}, 0
        self.counts = dict.fromkeys(("waits", "whole", "falls", "trimmed", "copies"), 0)

    def do(self, step):
        hall = self.hall
        kept = hall.places()[0]
        told = outcome(hall.do, step)
        for entry in hall.entries(len(self.log), many=400) if step[0] != "trim" else ():
            self.log.append(entry)
            self.tables.append(model_table_at(self.tables[-1], [entry], 1))
        if isinstance(told, str):
            self.note(step, told, kept)
        self.check(step, told)

    def note(self, step, told, kept):
        if step[0] in ("join", "fall"):
            self.began[step[1]] = self.hall.saved(step[1])
        if step[0] == "ask":
            self.stretches[int(told)] = (step[2], step[3])
        if step[0] == "finish":
            self.check_reading(step[1])
        if step[0] == "take":
            self.check_taken(step, int(told))
        self.counts["falls"] += step[0] == "fall" and self.hall.place(step[1]) > 0
        self.counts["trimmed"] += self.hall.places()[0] > kept

    def check_reading(self, number):
        """Rows on the wire were read at moments between the marks."""
        name, rows = [row[1:] for row in self.hall.wire() if row[0] == number][0]
        mark = self.log[-1]
        self.test.assertEqual((mark[0], mark[2]), ("high", number))
        low = self.log.index(("low", mark[1], number)) + 1
        asked = (self.table, self.log, low, len(self.log) - 1, self.stretches[number], rows)
        self.test.assertIsNot(moments(*asked), None)
        self.test.assertIs(odd(*asked), None)
        self.finished += 1

    def check_taken(self, step, many):
        """One that took less than it might is at the log's end, or waits for rows that were read and did not come."""
        name, place = step[1], self.hall.place(step[1])
        if many < step[2] and place < len(self.log):
            word, life, number = self.log[place]
            self.test.assertEqual(word, "high")
            self.test.assertIn((number, self.stretches[number], True, False), self.hall.asked(name))
            self.test.assertNotIn(number, [row[0] for row in self.hall.readings()])
            self.counts["waits"] += 1

    def check(self, step, told):
        hall, test = self.hall, self.test
        test.assertEqual(hall.table(), self.tables[-1])
        test.assertEqual(hall.places()[1], len(self.log))
        test.assertEqual(hall.entries(hall.places()[0], many=400), self.log[hall.places()[0]:])
        for name in hall.names():
            place, sure = hall.place(name), keys_of(hall.sure(name))
            test.assertEqual(hall.rows(name), tuple(row for row in self.tables[place] if row[0] in sure), (step, told))
            test.assertIs(hall.is_whole(name), len(sure) == 1000)
            test.assertIn(hall.saved(name)[0], [held for life, held in hall.holds()])
            test.assertLessEqual(hall.places()[0], min(place, hall.saved(name)[0]))
        test.assertEqual(len(hall.holds()), len(hall.names()))

    def check_events(self):
        for name in self.hall.names():
            events, start = self.hall.events(name), self.began[name][0]
            self.test.assertIs(first_wrong(self.table, self.log, events, start=start), None)
            copied = {event[2] for event in events if event[1] == "copy"}
            self.test.assertEqual(copied & keys_of(self.began[name][2]), set())
            self.counts["copies"] += len(copied)
            due = [at for at in range(start, self.hall.place(name)) if self.log[at][0] == "group"]
            told = [event for event in events if event[1] != "copy"]
            self.test.assertEqual(len(told), sum(len(self.log[at][1]) for at in due))

    def heal(self):
        """Gaps asked for, looked on, finished among changes, delivered in any order and taken."""
        for number, *rest in self.hall.readings():
            self.do(("stop", number))
        for name in self.hall.names():
            for number, *rest in self.hall.asked(name):
                self.do(("yield", name, number))
            for first, last in model_stretches(set(range(1000)) - keys_of(self.hall.sure(name))):
                self.do(("ask", name, first, last))
        while self.hall.readings():
            if self.chance.randrange(4) == 0:
                self.do(("change", (("put", self.chance.choice(KEYS), 1), ("drop", self.chance.choice(KEYS)))))
            number, life, stretch, rows, ended = self.chance.choice(self.hall.readings())
            self.do(("finish", number) if ended else ("look", number, self.chance.choice((1, 2, 50))))
        sent = [row[0] for row in self.hall.wire()]
        self.chance.shuffle(sent)
        for number in sent:
            self.do(("deliver", number))
        for name in self.hall.names():
            while self.hall.place(name) < len(self.log):
                ahead = self.hall.place(name)
                self.do(("take", name, 50))
                self.test.assertGreater(self.hall.place(name), ahead)
            self.test.assertIs(self.hall.is_whole(name), True)
            self.test.assertEqual((self.hall.rows(name), self.hall.asked(name)), (self.hall.table(), []))
            self.counts["whole"] += 1


class Promises(unittest.TestCase):
    def test_behind_each_step(self):
        counts, finished = {}, 0
        for seed in range(50):
            watched = Watched(self, seed)
            for at in range(110):
                watched.do(some_step(watched.chance, watched.hall, keep=seed % 5 == 0))
                if at % 20 == 0:
                    watched.check_events()
            watched.heal()
            watched.check_events()
            self.assertTrue(is_log(watched.log) or len(watched.log) > 400)
            counts = {name: counts.get(name, 0) + watched.counts[name] for name in watched.counts}
            finished += watched.finished
        self.assertGreater(finished, 300)
        for name, many in {"waits": 40, "whole": 100, "falls": 30, "trimmed": 40, "copies": 150}.items():
            self.assertGreater(counts[name], many, counts)

    def test_a_hundred_rows_and_four_hundred_entries(self):
        table = tuple((key * 10, 999) for key in range(100))
        groups = [("change", tuple(("put", (at + key) % 50 * 10, at) for key in range(6))) for at in range(398)]
        hall = Hall(table)
        hall.together([("join", "abcdefgh"), ("ask", "abcdefgh", 0, 1000), *groups[:98]])
        looks = [hall.together([("look", 0, 50), *groups[at:at + 99]])[0] for at in (98, 197, 296)]
        self.assertEqual([len(rows) for rows in looks], [50, 50, 0])
        hall.together([*groups[395:], ("finish", 0)])
        log = hall.entries(0, many=400)
        self.assertTrue(is_log(log))
        self.assertEqual((len(log), hall.places()), (400, (0, 400)))
        self.assertEqual(hall.together([("take", "abcdefgh", 50)] * 9), [50] * 7 + [49, 0])
        hall.deliver(0)
        self.assertEqual((hall.take("abcdefgh"), hall.is_whole("abcdefgh")), (1, True))
        self.assertEqual(hall.rows("abcdefgh"), hall.table())
        events = hall.events("abcdefgh")
        self.assertEqual(events[-50:], [(400, "copy", key * 10, 999) for key in range(50, 100)])
        self.assertEqual((len(events), first_wrong(table, log, events)), (398 * 6 + 50, None))
        self.assertIs(odd(table, log, 1, 399, (0, 1000), looks[0] + looks[1]), None)
        hall.save("abcdefgh")
        self.assertEqual(hall.trim(), 400)
        while hall.places()[1]:
            hall.take_back()
        self.assertEqual(hall, Hall(table))


if __name__ == "__main__":
    unittest.main()
