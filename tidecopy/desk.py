"""The desk: a hall that is told rows of words, and answers with texts."""

from tidecopy.errors import NoRow, NoText
from tidecopy.hall import MOST, Hall
from tidecopy.readings import gaps_between
from tidecopy.texts import listed, read_number, read_step, read_table, rows_text


def stretches_text(stretches):
    return listed([f"{first}-{last}" for first, last in stretches])


def answer_text(answer):
    """What a step tells, as a text."""
    if answer is None:
        return "done"
    return rows_text(answer) if isinstance(answer, tuple) else str(answer)


def say_undo(hall):
    hall.take_back()
    return "done"


def say_table(hall):
    return rows_text(hall.table())


def say_names(hall):
    return listed(hall.names())


def say_places(hall):
    first, last = hall.places()
    return f"{first} {last}"


def say_wire(hall):
    return listed([f"{number}:{name}" for number, name, rows in hall.wire()])


def say_rows(hall, name):
    return rows_text(hall.rows(name))


def say_sure(hall, name):
    return stretches_text(hall.sure(name))


def say_gaps(hall, name):
    return stretches_text(gaps_between(hall.sure(name)))


def say_whole(hall, name):
    return "yes" if hall.is_whole(name) else "no"


def say_worth(hall, name, key):
    worth = hall.worth(name, key)
    return "none" if worth is None else str(worth)


PLAIN_ROWS = {
    "undo": say_undo,
    "table": say_table,
    "names": say_names,
    "places": say_places,
    "wire": say_wire,
}
TAKER_ROWS = {
    "rows": say_rows,
    "sure": say_sure,
    "gaps": say_gaps,
    "whole": say_whole,
}


def read_key(word):
    """A number that may be a key; NoRow."""
    try:
        return read_number(word)
    except NoText:
        raise NoRow("no number") from None


def step_or_none(row):
    """The step that is written so, None where none is."""
    try:
        return read_step(row)
    except NoText:
        return None


def say_beside_steps(hall, words):
    """The answer to a row that is no step; NoRow, then as the hall refuses."""
    # A blank too many leaves an empty word.
    if "" in words:
        raise NoRow("a blank too many")
    word = words[0]
    if len(words) == 1 and word in PLAIN_ROWS:
        action = PLAIN_ROWS[word]
        return action(hall)
    if len(words) == 2 and word in TAKER_ROWS:
        action = TAKER_ROWS[word]
        return action(hall, words[1])
    if len(words) == 3 and word == "worth":
        return say_worth(hall, words[1], read_key(words[2]))
    raise NoRow("no such row")


class Desk:
    """A desk with a hall of its own, made of a table's text; NoText."""

    def __init__(self, text, *, most=MOST):
        self.hall = Hall(read_table(text), most=most)

    def say(self, row):
        """The answer to a row; NoRow, then as the hall refuses."""
        if not isinstance(row, str) or "\n" in row:
            raise NoRow("no row")
        step = step_or_none(row)
        if step is None:
            return say_beside_steps(self.hall, row.split(" "))
        return answer_text(self.hall.do(step))
