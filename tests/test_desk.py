"""Points 2 and 18: the desk."""

import random
import unittest

from tests.hall_steps import some_step
from tests.model_hall import ModelHall
from tests.models import outcome
from tests.test_texts import NO_GROUPS, NO_NAMES, NO_NUMBERS, TABLES, WITH_NAMES, WITH_NUMBERS
from tests.things import ANYTHING
from tidecopy import desk as module
from tidecopy.desk import Desk
from tidecopy.texts import step_text

TEXT = "0:5 4:6 7:7 999:8"
READ = ("join ann", "ask ann 0 1000", "look 0 2", "change put:4:9,put:20:1", "look 0 50", "finish 0")
ASKS = ("table", "names", "places", "wire")
TAKER_ASKS = ("rows", "sure", "gaps", "whole")
NO_ROW = ("NoRow", {})


def with_rows(*rows, text=TEXT, most=300):
    desk = Desk(text, most=most)
    for row in rows:
        desk.say(row)
    return desk


def desk_state(desk):
    """All that a desk says of its hall."""
    names = [name for name in desk.say("names").split(" ") if name != "none"]
    return [desk.say(row) for row in ASKS] + [desk.say(f"{row} {name}") for name in names for row in TAKER_ASKS]


class DeskCase(unittest.TestCase):
    def says(self, desk, **told):
        for row, answer in told.items():
            self.assertEqual(desk.say(row.replace("_", " ")), answer, row)

    def refuses(self, desk, told, row):
        before = desk_state(desk)
        self.assertEqual(outcome(desk.say, row), told, row)
        self.assertEqual(desk_state(desk), before)


class Making(DeskCase):
    def test_of_a_tables_text(self):
        for text in TABLES:
            self.assertEqual(desk_state(Desk(text)), [text, "none", "0 0", "none"])
        self.assertEqual(Desk(most=3, text="1:1").say(row="table"), "1:1")
        self.assertRaises(TypeError, Desk, "none", 5)

    def test_of_anything(self):
        for thing in [*ANYTHING, "0:5 ", "5:0 4:0", "01:1", "1000:0", " ".join(f"{key}:0" for key in range(101)), ((0, 5),), "None"]:
            self.assertEqual(outcome(Desk, thing), ("NoText", {"line": None}), thing)

    def test_it_is_defined_in_desk(self):
        self.assertEqual(Desk.__module__, "tidecopy.desk")
        self.assertIs(module.Desk, Desk)
        self.assertIn("say", vars(Desk))


class Steps(DeskCase):
    def test_answers(self):
        desk = Desk(TEXT)
        for row, answer in (
                ("join ann", "done"), ("ask ann 0 1000", "0"), ("look 0 2", "0:5 4:6"), ("look 0 0", "none"),
                ("change put:4:9,put:20:1", "done"), ("look 0 50", "7:7 20:1 999:8"), ("finish 0", "0:5 4:6 7:7 20:1 999:8"),
                ("take ann 50", "2"), ("take ann 1", "0"), ("deliver 0", "done"), ("save ann", "done"), ("take ann 50", "1"),
                ("trim", "2"), ("ask ann 8 20", "1"), ("look 1 5", "none"), ("finish 1", "none"), ("lose 1", "done"),
                ("yield ann 1", "done"), ("ask ann 0 1", "2"), ("stop 2", "done"), ("fall ann", "done"), ("trim", "2"),
                ("join trim", "done"), ("take trim 1", "0")):
            self.assertEqual(desk.say(row), answer, row)
        self.assertEqual(desk_state(desk), [
            "0:5 4:9 7:7 20:1 999:8", "ann trim", "2 6", "none", "4:9 20:1", "4-5 20-21", "0-4 5-20 21-1000", "no",
            "none", "none", "0-1000", "no"])

    def test_more_rows_than_a_table_has(self):
        desk = with_rows("join ann", "ask ann 0 1000", text=" ".join(f"{key}:0" for key in range(100)))
        for at in range(0, 100, 5):
            desk.say("look 0 5")
            desk.say("change " + ",".join(f"drop:{key}" for key in range(at, at + 5)))
            desk.say("change " + ",".join(f"put:{500 + key}:1" for key in range(at, at + 5)))
        for at in range(3):
            desk.say("look 0 50")
        rows = " ".join([f"{key}:0" for key in range(100)] + [f"{key}:1" for key in range(500, 600)])
        self.assertEqual(desk.say("finish 0"), rows)

    def test_as_the_hall_refuses(self):
        desk = with_rows(*READ, "join bob", "ask bob 0 5", "look 1 50", "ask bob 0 9")
        for row, told in (
                ("join ann", ("Twice", {})), ("fall cid", ("NoTaker", {"name": "cid"})), ("save cid", ("NoTaker", {"name": "cid"})),
                ("ask cid 0 5", ("NoTaker", {"name": "cid"})), ("ask ann 5 5", ("NoStretch", {})), ("ask ann 0 1001", ("NoStretch", {})),
                ("ask ann 0 999999999999", ("NoStretch", {})), ("look 0 51", ("NoPlace", {"at": 51})),
                ("look 9 999999999999", ("NoPlace", {"at": 999999999999})), ("look 0 5", ("NoReading", {"number": 0})),
                ("look 999999999999 5", ("NoReading", {"number": 999999999999})), ("look 1 0", ("Ended", {})),
                ("finish 0", ("NoReading", {"number": 0})), ("finish 2", ("NotEnded", {})), ("stop 3", ("NoReading", {"number": 3})),
                ("deliver 1", ("NotOnWire", {"number": 1})), ("lose 7", ("NotOnWire", {"number": 7})),
                ("take ann 0", ("NoPlace", {"at": 0})), ("take ann 51", ("NoPlace", {"at": 51})), ("take cid 0", ("NoPlace", {"at": 0})),
                ("take cid 1", ("NoTaker", {"name": "cid"})), ("yield cid 0", ("NoTaker", {"name": "cid"})),
                ("yield ann 1", ("NotAsked", {"number": 1}))):
            self.refuses(desk, told, row)
        full = Desk(" ".join(f"{key}:0" for key in range(100)))
        self.refuses(full, ("TooMany", {"many": 101}), "change put:500:0")

    def test_most(self):
        for most in (1, 2, 5):
            desk = with_rows(*["trim"] * most, most=most)
            for row in ("trim", "join ann", "change drop:0"):
                self.refuses(desk, ("TooMany", {"many": most}), row)
            self.refuses(desk, ("NoTaker", {"name": "ann"}), "fall ann")
            self.refuses(desk, NO_ROW, "fall Ann")
            self.assertEqual((desk.say("undo"), desk.say("join ann"), desk.say("names")), ("done", "done", "ann"))
        desk = with_rows(*["trim"] * 300)
        self.refuses(desk, ("TooMany", {"many": 300}), "trim")

    def test_undo(self):
        desk, states = Desk(TEXT), []
        self.refuses(desk, ("NothingLeft", {}), "undo")
        rows = (*READ, "take ann 1", "deliver 0", "take ann 50", "save ann", "trim", "fall ann", "ask ann 0 5", "stop 1")
        for row in rows:
            states.append(desk_state(desk))
            desk.say(row)
        for row in rows:
            self.assertEqual(desk.say("undo"), "done")
            self.assertEqual(desk_state(desk), states.pop())
        self.refuses(desk, ("NothingLeft", {}), "undo")
        self.assertEqual(desk.say("join ann"), "done")


class Asking(DeskCase):
    def test_with_none(self):
        desk = Desk("none")
        self.assertEqual(desk_state(desk), ["none", "none", "0 0", "none"])
        desk.say("join ann")
        self.says(desk, names="ann", rows_ann="none", sure_ann="none", gaps_ann="0-1000", whole_ann="no", table="none")

    def test_names_and_the_wire(self):
        desk = with_rows("join zed", "join ann", "join bob", "ask zed 0 5", "ask ann 0 5", "ask zed 8 9", "look 0 9", "look 1 9", "look 2 9")
        self.says(desk, names="ann bob zed", wire="none", places="0 3")
        desk.say("finish 2")
        self.says(desk, wire="2:zed")
        desk.say("finish 1")
        desk.say("finish 0")
        self.says(desk, wire="0:zed 1:ann 2:zed")
        desk.say("fall zed")
        self.says(desk, wire="1:ann", places="0 6", names="ann bob zed")

    def test_places(self):
        desk = with_rows("change drop:0", "change drop:4", "trim", "join ann", "change drop:7")
        self.says(desk, places="2 3", table="999:8")

    def test_sure_gaps_and_whole(self):
        desk = with_rows(*READ)
        self.says(desk, sure_ann="none", gaps_ann="0-1000")
        desk.say("take ann 2")
        self.says(desk, rows_ann="4:9 20:1", sure_ann="4-5 20-21", gaps_ann="0-4 5-20 21-1000", whole_ann="no")
        desk.say("deliver 0")
        desk.say("take ann 1")
        self.says(desk, rows_ann="0:5 4:9 7:7 20:1 999:8", sure_ann="0-1000", gaps_ann="none", whole_ann="yes")

    def test_gaps_at_both_ends(self):
        for changes, sure, gaps in (("drop:0", "0-1", "1-1000"), ("drop:999", "999-1000", "0-999"),
                                    ("drop:999,drop:0", "0-1 999-1000", "1-999"), ("drop:1,drop:998", "1-2 998-999", "0-1 2-998 999-1000")):
            desk = with_rows("join ann", "change " + changes, "take ann 1")
            self.says(desk, sure_ann=sure, gaps_ann=gaps)

    def test_worth(self):
        desk = with_rows("join ann", "change put:0:0,put:999:999,drop:4,drop:5", "take ann 1")
        self.says(desk, worth_ann_0="0", worth_ann_999="999", worth_ann_4="none", worth_ann_5="none")
        for key in (1, 3, 6, 7, 998):
            self.refuses(desk, ("NotSure", {"key": key}), f"worth ann {key}")
        for key in (1000, 1001, 999999999999):
            self.refuses(desk, ("NoKey", {"key": key}), f"worth ann {key}")
            self.refuses(desk, ("NoTaker", {"name": "bob"}), f"worth bob {key}")
        for word in NO_NUMBERS:
            self.refuses(desk, NO_ROW, f"worth ann {word}")
            self.refuses(desk, NO_ROW, f"worth bob {word}")

    def test_no_taker_of_any_word(self):
        desk = with_rows(*READ)
        for word in [name for name in NO_NAMES if name] + ["bob", "none", "annn", "0", "ann:0", "rows", "a\tb", "x" * 9000]:
            for row in (*TAKER_ASKS, "worth"):
                self.refuses(desk, ("NoTaker", {"name": word}), f"{row} {word}" + " 0" * (row == "worth"))


class NoRows(DeskCase):
    def test_other_words(self):
        desk = with_rows(*READ)
        for row in ("", " ", "~", "x", "none", "done", "Table", "TABLE", "tables", "tabl", "undo undo", "undo 1", "table ann", "names 0",
                    "places 0", "wire 0", "rows", "sure", "whole", "gaps", "worth", "worth ann", "worth 0", "worth ann 0 0", "rows ann ann",
                    "sure ann 0", "whole ann bob", "gaps ann 5", "take_back", "give_up ann 0", "give ann 0", "events ann", "asked ann",
                    "saved ann", "place ann", "holds", "readings", "entries 0", "is_whole ann", "busy", "len", "look", "trim 0", "do trim",
                    "~" * 10000, "x " * 5000):
            self.refuses(desk, NO_ROW, row)

    def test_blanks_and_line_feeds(self):
        desk = with_rows(*READ)
        for row in (*READ, "trim", "undo", *ASKS, *[f"{row} ann" for row in TAKER_ASKS], "worth ann 4", "rows nobody"):
            for other in (" " + row, row + " ", row.replace(" ", "  "), "\n" + row, row + "\n", row + "\n" + row, row.replace(" ", "\n"),
                          row[:2] + "\n" + row[2:], row + " \n"):
                if other != row:
                    self.refuses(desk, NO_ROW, other)
        for row in ("\n", "\n\n", " \n ", "rows a\nb", "rows \n", "rows  ann", "rows ", "worth ann ", "worth  0"):
            self.refuses(desk, NO_ROW, row)

    def test_steps_that_are_written_otherwise(self):
        desk = with_rows(*READ)
        for row in WITH_NUMBERS:
            for word in NO_NUMBERS:
                self.refuses(desk, NO_ROW, row.format(word))
        for row in WITH_NAMES:
            for name in NO_NAMES:
                self.refuses(desk, NO_ROW, row.format(name))
        for word in NO_GROUPS:
            self.refuses(desk, NO_ROW, "change " + word)

    def test_of_anything(self):
        desk = with_rows(*READ)
        for thing in [*ANYTHING, ("trim",), ["table"], ("table",), b"table", ("join", "bob")]:
            self.refuses(desk, NO_ROW, thing)


class Beside(DeskCase):
    def test_against_a_model_two_desks_beside_one_another(self):
        chances = [random.Random(seed) for seed in (81, 82)]
        desks, models = [Desk(TEXT), Desk(TEXT)], [ModelHall(((0, 5), (4, 6), (7, 7), (999, 8))) for at in range(2)]
        done = 0
        for at in range(200):
            for chance, desk, model in zip(chances, desks, models):
                step = some_step(chance, model)
                try:
                    row = step_text(step)
                except ValueError:
                    continue
                told, meant = outcome(desk.say, row), outcome(model.do, step)
                if isinstance(meant, tuple):
                    self.assertEqual(told, meant)
                else:
                    answer = {"None": "done", "()": "none"}.get(meant, meant)
                    if answer.startswith("("):
                        answer = " ".join(f"{key}:{worth}" for key, worth in eval(answer))
                    self.assertEqual(told, repr(answer))
                    done += 1
            for desk, model in zip(desks, models):
                self.assertEqual(desk.say("names"), " ".join(model.names()) or "none")
                self.assertEqual(desk.say("wire"), " ".join(f"{row[0]}:{row[1]}" for row in model.wire()) or "none")
                self.assertEqual(desk.say("places"), "{} {}".format(*model.places()))
                for name in model.names():
                    self.assertEqual(desk.say(f"sure {name}"), " ".join(f"{a}-{b}" for a, b in model.sure(name)) or "none")
                    self.assertEqual(desk.say(f"rows {name}"), " ".join(f"{a}:{b}" for a, b in model.rows(name)) or "none")
        self.assertGreater(done, 200)

    def test_the_same_asked_again(self):
        desk = with_rows(*READ, "take ann 2")
        told = desk_state(desk)
        for at in range(3):
            self.assertEqual(desk_state(desk), told)


if __name__ == "__main__":
    unittest.main()
