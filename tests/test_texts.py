"""Points 2, 16 and 17: texts of tables and steps."""

import random
import unittest

from tests.model_hall import is_model_name
from tests.models import outcome
from tests.things import ANYTHING, spoiled
from tidecopy import texts
from tidecopy.tables import is_entry, is_table
from tidecopy.texts import read_step, read_steps, read_table, step_text, steps_text, table_text

HUGE = 10 ** 40 - 1
GREATEST = 999999999999
NONE = ("NoText", {"line": None})
SIX = tuple(("put", 999, 999) if at % 2 else ("drop", at) for at in range(6))
TABLES = {
    "none": (), "3:10 7:0": ((3, 10), (7, 0)), "0:0": ((0, 0),), "999:999": ((999, 999),), "0:999 999:0": ((0, 999), (999, 0)),
    " ".join(f"{key}:{key}" for key in range(100)): tuple((key, key) for key in range(100)),
    " ".join(f"{key}:999" for key in range(900, 1000)): tuple((key, 999) for key in range(900, 1000)),
}
STEPS = {
    "join ann": ("join", "ann"), "join a": ("join", "a"), "join abcdefgh": ("join", "abcdefgh"),
    "join join": ("join", "join"), "join none": ("join", "none"), "fall ann": ("fall", "ann"), "fall trim": ("fall", "trim"),
    "save ann": ("save", "ann"), "save zzzzzzzz": ("save", "zzzzzzzz"), "change put:3:10": ("change", (("put", 3, 10),)),
    "change drop:0": ("change", (("drop", 0),)), "change put:0:0,drop:999": ("change", (("put", 0, 0), ("drop", 999))),
    "change drop:0,put:999:999,drop:2,put:999:999,drop:4,put:999:999": ("change", SIX),
    "ask ann 0 1000": ("ask", "ann", 0, 1000), "ask yield 5 3": ("ask", "yield", 5, 3),
    "ask a 999999999999 0": ("ask", "a", GREATEST, 0), "look 0 5": ("look", 0, 5), "look 12 51": ("look", 12, 51),
    "look 999999999999 999999999999": ("look", GREATEST, GREATEST), "finish 0": ("finish", 0),
    "finish 999999999999": ("finish", GREATEST), "stop 10": ("stop", 10), "deliver 3": ("deliver", 3), "lose 100": ("lose", 100),
    "take ann 1": ("take", "ann", 1), "take take 50": ("take", "take", 50), "take ann 0": ("take", "ann", 0),
    "yield ann 7": ("yield", "ann", 7), "yield yield 0": ("yield", "yield", 0), "trim": ("trim",),
}
# No texts of numbers that are to stand behind a word.
NO_NUMBERS = ("", "00", "01", "007", "+1", "-1", "-0", "1_0", "1.0", "1e3", "0x1", "a", "1000000000000", "0000000000000", "1,", "1:",
              "none", "1;", "~", "9" * 5000)
NO_NAMES = ("", "A", "anN", "a1", "1", "abcdefghi", "a" * 5000, "a-b", "a:b", "~", "`", "{", "a.")
NO_GROUPS = ("", ",", "put", "drop", "put:1", "drop:1:1", "put:1:1:1", "put:1000:0", "put:0:1000", "drop:1000", "put:1:1,",
             ",put:1:1", "put:1:1,,drop:1", "put:01:1", "put:1:01", "drop:01", "Put:1:1", "set:1:1", "put:-1:1", "put:1:-1",
             "put::1", "put:1:", ":1:1", "drop:", "drop:none", "put:1:none", "put:1:1;drop:1", "put 1:1", "put:1:1, drop:1",
             ",".join(["drop:1"] * 7), ",".join(["put:1:1"] * 1000), "1", "none", "group", "put:1:1000000000000")
WITH_NUMBERS = ("ask ann {} 5", "ask ann 0 {}", "look {} 5", "look 0 {}", "finish {}", "stop {}", "deliver {}", "lose {}",
                "take ann {}", "yield ann {}")
WITH_NAMES = ("join {}", "fall {}", "save {}", "ask {} 0 5", "take {} 1", "yield {} 0")


def is_model_number(thing):
    return type(thing) is int and 0 <= thing <= GREATEST


def is_model_step(thing):
    if type(thing) is not tuple or not thing or type(thing[0]) is not str:
        return False
    kinds = {"join": "n", "fall": "n", "save": "n", "change": "c", "ask": "n00", "look": "00", "finish": "0", "stop": "0",
             "deliver": "0", "lose": "0", "take": "n0", "yield": "n0", "trim": ""}.get(thing[0])
    if kinds is None or len(kinds) != len(thing) - 1:
        return False
    checks = {"n": is_model_name, "0": is_model_number, "c": lambda changes: is_entry(("group", changes))}
    return all(checks[kind](part) for kind, part in zip(kinds, thing[1:]))


def near(text):
    """Texts with one sign more, less or otherwise."""
    for at in range(len(text) + 1):
        yield text[:at] + text[at + 1:]
        for sign in " 0179:,az-\n~":
            yield text[:at] + sign + text[at:]
            yield text[:at] + sign + text[at + 1:]


class Tables(unittest.TestCase):
    def test_written_and_read(self):
        for text, table in TABLES.items():
            self.assertEqual(table_text(table), text)
            self.assertEqual(repr(read_table(text)), repr(table))

    def test_drawn_ones(self):
        chance = random.Random(61)
        for run in range(300):
            keys = sorted(chance.sample(range(1000), chance.randint(0, 100)))
            table = tuple((key, chance.randrange(1000)) for key in keys)
            self.assertEqual(repr(read_table(table_text(table))), repr(table))

    def test_no_texts(self):
        for text in ("", " ", "\n", "None", "NONE", "none ", " none", "none none", "none 3:10", "3:10 none", "3", "3:", ":3", "3:10:1",
                     "3 10", "3:10,7:0", "3:10  7:0", " 3:10", "3:10 ", "3:10\n", "3:10\n7:0", "7:0 3:10", "3:10 3:10", "3:1 3:2",
                     "03:1", "3:01", "00:1", "3:00", "1000:0", "0:1000", "+3:1", "-3:1", "3:+1", "3:-1", "3 :1", "3: 1", "3:1 7",
                     "1000000000000:1", "1:1000000000000", "9" * 5000 + ":1", "1_0:1", "a:b", "3;10", "()", "((3, 10),)", "3:10\t7:0",
                     " ".join(f"{key}:0" for key in range(101)), "~" * 10000, " " * 10000, "1:1 " * 2500):
            self.assertEqual(outcome(read_table, text), NONE, text)

    def test_of_anything(self):
        for thing in [*ANYTHING, ((3, 10),), ["3:10"], ("3:10",), ["none"], ("none",), b"none", 3]:
            self.assertEqual(outcome(read_table, thing), NONE, thing)

    def test_texts_that_are_near(self):
        for text in ("3:10 7:0", "none", "0:0", "98:999 999:1"):
            for other in near(text):
                told = outcome(read_table, other)
                if told != NONE:
                    table = read_table(other)
                    self.assertTrue(is_table(table))
                    self.assertEqual(table_text(table), other)

    def test_what_is_no_table_is_not_written(self):
        for thing in [*ANYTHING, *spoiled(((3, 10), (7, 0))), tuple((key, 0) for key in range(101))]:
            if is_table(thing):
                self.assertEqual(read_table(table_text(thing)), thing)
            else:
                self.assertEqual(outcome(table_text, thing), NONE, thing)


class Steps(unittest.TestCase):
    def test_written_and_read(self):
        for text, step in STEPS.items():
            self.assertEqual(step_text(step), text)
            self.assertEqual(repr(read_step(text)), repr(step))
        self.assertEqual({step[0] for step in STEPS.values()}, set(
            "join fall save change ask look finish stop deliver lose take yield trim".split()))

    def test_numbers(self):
        for number in (0, 1, 9, 10, 99, 100, 99999, 123456789012, GREATEST):
            for row in WITH_NUMBERS:
                self.assertEqual(step_text(read_step(row.format(number))), row.format(number))
                self.assertIn(number, read_step(row.format(number)))
        for word in NO_NUMBERS:
            for row in WITH_NUMBERS:
                self.assertEqual(outcome(read_step, row.format(word)), NONE, row.format(word))

    def test_names(self):
        for name in ("a", "z", "abcdefgh", "stuvwxyz", "join", "change", "yield", "trim", "none", "put", "drop"):
            for row in WITH_NAMES:
                self.assertEqual(read_step(row.format(name)).count(name), 1 + (row.split()[0] == name))
                self.assertEqual(step_text(read_step(row.format(name))), row.format(name))
        for name in NO_NAMES:
            for row in WITH_NAMES:
                self.assertEqual(outcome(read_step, row.format(name)), NONE, row.format(name))

    def test_groups(self):
        for word in NO_GROUPS:
            self.assertEqual(outcome(read_step, "change " + word), NONE, word)

    def test_no_texts(self):
        for text in STEPS:
            for other in (" " + text, text + " ", text.replace(" ", "  "), text + "\n", "\n" + text, text.replace(" ", "\n"),
                          text.upper(), text.capitalize(), text + " 0", text + " ann", text + " trim", text.replace(" ", "\t"),
                          text.rpartition(" ")[0], text[1:], "do " + text, text.replace(" ", ","), f'("{text}")'):
                if other != text and other not in STEPS:
                    self.assertEqual(outcome(read_step, other), NONE, other)
        for text in ("", " ", "\n", "none", "undo", "table", "give ann 0", "give_up ann 0", "names", "~" * 10000, " " * 10000,
                     "trim\ntrim", "trim trim", "join", "change", "ask", "look", "take", "yield", "look 0", "ask ann 0", "take ann"):
            self.assertEqual(outcome(read_step, text), NONE, text)

    def test_of_anything(self):
        for thing in [*ANYTHING, *STEPS.values(), ["trim"], b"trim", 0]:
            self.assertEqual(outcome(read_step, thing), NONE, thing)

    def test_texts_that_are_near(self):
        for text in STEPS:
            for other in near(text):
                if outcome(read_step, other) != NONE:
                    self.assertTrue(is_model_step(read_step(other)), other)
                    self.assertEqual(step_text(read_step(other)), other)

    def test_what_is_no_step_is_not_written(self):
        for step in STEPS.values():
            for thing in spoiled(step):
                if is_model_step(thing):
                    self.assertEqual(read_step(step_text(thing)), thing)
                else:
                    self.assertEqual(outcome(step_text, thing), NONE, thing)
        for step in (("look", GREATEST + 1, 5), ("look", 0, HUGE), ("look", -1, 5), ("join", "Ann"), ("join", ""), ("look", True, 5),
                     ("change", SIX + SIX[:1]), ("give_up", "ann", 0)):
            self.assertEqual(outcome(step_text, step), NONE, step)


class Lines(unittest.TestCase):
    def test_written_and_read(self):
        steps = list(STEPS.values())
        self.assertEqual(steps_text(steps), "\n".join(STEPS))
        self.assertEqual(repr(read_steps("\n".join(STEPS))), repr(steps))
        self.assertEqual((steps_text([]), read_steps("")), ("", []))
        for text, step in STEPS.items():
            self.assertEqual((steps_text([step]), read_steps(text)), (text, [step]))

    def test_a_hundred(self):
        steps = [("look", at, 5) for at in range(100)]
        self.assertEqual(read_steps(steps_text(steps)), steps)

    def test_empty_lines_at_any_place(self):
        steps, lines = list(STEPS.values())[:4], list(STEPS)[:4]
        for at in range(5):
            for many in (1, 2, 7):
                self.assertEqual(read_steps("\n".join(lines[:at] + [""] * many + lines[at:])), steps)
        self.assertEqual(read_steps("\n\n\n"), [])
        self.assertEqual(read_steps("\n" * 10000), [])

    def test_the_first_line_that_is_none(self):
        lines = list(STEPS)
        for wrong in (" ", "trim ", " trim", "join Ann", "look 01 5", "look 0", "none", "undo", "look 1000000000000 0", "join a\t", "#"):
            for at in range(len(lines) + 1):
                for gap in (0, 1, 3):
                    rows = [""] * gap + lines[:at] + [wrong] + lines[at:] + [wrong, "x"]
                    self.assertEqual(outcome(read_steps, "\n".join(rows)), ("NoText", {"line": gap + at + 1}))
        self.assertEqual(outcome(read_steps, " "), ("NoText", {"line": 1}))
        self.assertEqual(outcome(read_steps, "\n "), ("NoText", {"line": 2}))
        self.assertEqual(outcome(read_steps, " \n"), ("NoText", {"line": 1}))
        self.assertEqual(outcome(read_steps, "trim\n\n\ntrim\nx\n "), ("NoText", {"line": 5}))

    def test_of_anything(self):
        for thing in ANYTHING:
            if thing == "":
                self.assertEqual(read_steps(thing), [])
            else:
                self.assertEqual(outcome(read_steps, thing), ("NoText", {"line": 1 if isinstance(thing, str) else None}), thing)
        for thing in (["trim"], [("trim",)], ("trim",), [], (), b"", None, 0):
            self.assertEqual(outcome(read_steps, thing), NONE)

    def test_what_is_no_steps_is_not_written(self):
        for thing in ANYTHING:
            if thing == [] and type(thing) is list:
                self.assertEqual(steps_text(thing), "")
            else:
                self.assertEqual(outcome(steps_text, thing), NONE, thing)
        self.assertEqual(outcome(steps_text, [("trim",), ("look", -1, 0), ("trim",)]), NONE)
        self.assertEqual(outcome(steps_text, [("trim",), None]), NONE)

    def test_lists_are_the_askers_own(self):
        text, handed = "trim\njoin ann", [("trim",), ("join", "ann")]
        told, other = read_steps(text), read_steps(text)
        told.append("more")
        told.reverse()
        self.assertEqual((other, read_steps(text)), (handed, handed))
        for at in range(2):
            self.assertEqual((steps_text(handed), handed), (text, [("trim",), ("join", "ann")]))


class Interface(unittest.TestCase):
    def test_by_names(self):
        self.assertEqual((table_text(table=((3, 1),)), read_table(text="3:1")), ("3:1", ((3, 1),)))
        self.assertEqual((step_text(step=("trim",)), read_step(text="trim")), ("trim", ("trim",)))
        self.assertEqual((steps_text(steps=[("trim",)]), read_steps(text="trim")), ("trim", [("trim",)]))

    def test_they_are_defined_in_texts(self):
        for name in "table_text step_text steps_text read_table read_step read_steps".split():
            self.assertEqual(getattr(texts, name).__module__, "tidecopy.texts")


if __name__ == "__main__":
    unittest.main()
