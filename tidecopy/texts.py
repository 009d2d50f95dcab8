"""Texts: how tables and the steps of a hall are written, and how they are read back."""

from tidecopy.errors import NoText
from tidecopy.tables import is_group, is_number, is_table

MOST_FIGURES = 12
LONGEST_NAME = 8
# What stands behind the word of each step.
PARTS = {
    "join": ("name",),
    "fall": ("name",),
    "save": ("name",),
    "change": ("group",),
    "ask": ("name", "number", "number"),
    "look": ("number", "number"),
    "finish": ("number",),
    "stop": ("number",),
    "deliver": ("number",),
    "lose": ("number",),
    "take": ("name", "number"),
    "yield": ("name", "number"),
    "trim": (),
}


def is_name(thing):
    """Whether anything is a name."""
    if not isinstance(thing, str) or not 1 <= len(thing) <= LONGEST_NAME:
        return False
    return all(["a" <= sign <= "z" for sign in thing])


def is_part(kind, thing):
    if kind == "name":
        return is_name(thing)
    if kind == "group":
        return is_group(thing)
    return is_number(thing) and thing >= 0 and len(str(thing)) <= MOST_FIGURES


def is_step(thing):
    """Whether anything is a step that can be written."""
    if not isinstance(thing, tuple) or not thing or not isinstance(thing[0], str) or thing[0] not in PARTS:
        return False
    kinds = PARTS[thing[0]]
    if len(thing) != len(kinds) + 1:
        return False
    return all([is_part(kind, part) for kind, part in zip(kinds, thing[1:])])


def listed(words):
    """Words with a blank between them, or that there are none."""
    return " ".join(words) if words else "none"


def rows_text(rows):
    """Rows as a table is written, however many there are."""
    return listed([f"{key}:{worth}" for key, worth in rows])


def group_text(changes):
    return ",".join([":".join([str(part) for part in change]) for change in changes])


def part_text(kind, part):
    return group_text(part) if kind == "group" else str(part)


def table_text(table):
    """A table as it is written; NoText of what is none."""
    if not is_table(table):
        raise NoText()
    return rows_text(table)


def step_text(step):
    """A step as it is written; NoText of what is none."""
    if not is_step(step):
        raise NoText()
    parts = [part_text(kind, part) for kind, part in zip(PARTS[step[0]], step[1:])]
    return " ".join([step[0], *parts])


def steps_text(steps):
    """Steps as they are written, by lines; NoText of what is none."""
    if not isinstance(steps, list):
        raise NoText()
    return "\n".join([step_text(step) for step in steps])


def read_number(word):
    """A number of its figures; NoText."""
    if not word.isascii() or not word.isdigit() or len(word) > MOST_FIGURES:
        raise NoText()
    if word[0] == "0" and word != "0":
        raise NoText()
    return int(word)


def read_numbers(words):
    return [read_number(word) for word in words]


def read_table(text):
    """A table of its text; NoText of anything else."""
    if not isinstance(text, str):
        raise NoText()
    if text == "none":
        return ()
    table = tuple([tuple(read_numbers(word.split(":"))) for word in text.split(" ")])
    if not is_table(table):
        raise NoText()
    return table


def read_change(text):
    """The word and the numbers of a change, which may still be too many or too few."""
    word, *figures = text.split(":")
    numbers = read_numbers(figures)
    return (word, *numbers)


def read_part(kind, word):
    if kind == "name":
        return word
    if kind == "group":
        return tuple([read_change(text) for text in word.split(",")])
    return read_number(word)


def read_step(text):
    """A step of its text; NoText of anything else."""
    if not isinstance(text, str):
        raise NoText()
    words = text.split(" ")
    kinds = PARTS.get(words[0], ())
    parts = [read_part(kind, word) for kind, word in zip(kinds, words[1:])]
    step = (words[0], *parts)
    if len(words) != len(step) or not is_step(step):
        raise NoText()
    return step


def read_steps(text):
    """Steps of their lines, empty ones left out; NoText of anything else, with the first line that is none."""
    if not isinstance(text, str):
        raise NoText()
    steps = []
    for number, line in enumerate(text.split("\n"), start=1):
        if line:
            steps.append(read_line(number, line))
    return steps


def read_line(number, line):
    try:
        return read_step(line)
    except NoText:
        raise NoText(number) from None
