"""All refusals, in two families: of what was told, and of what was asked for."""


class TideError(ValueError):
    """Any refusal."""


class ToldError(TideError):
    """What was handed in is no such thing, or too much of it."""


class AskedError(TideError):
    """What was asked for is not there, or not now."""


class NoTable(ToldError):
    """No table."""


class NoChange(ToldError):
    """No group of changes."""


class NoStretch(ToldError):
    """No stretch of keys."""


class NoRows(ToldError):
    """No rows of the stretch."""


class NoName(ToldError):
    """No name."""


class NoText(ToldError):
    """No text of what was to be read; line is None where no line is to be told."""

    def __init__(self, line=None):
        super().__init__(f"no such text, line: {line}")
        self.line = line


class NoRow(ToldError):
    """No row that a desk knows."""


class TooMany(ToldError):
    """More than there may be."""

    def __init__(self, many):
        super().__init__(f"too many: {many}")
        self.many = many


class Twice(ToldError):
    """Told once already."""


class NoPlace(AskedError):
    """No such place."""

    def __init__(self, at):
        super().__init__(f"no place: {at}")
        self.at = at


class NoLife(AskedError):
    """No such life."""

    def __init__(self, who):
        super().__init__(f"no life: {who}")
        self.who = who


class NoReading(AskedError):
    """No such reading under way."""

    def __init__(self, number):
        super().__init__(f"no reading: {number}")
        self.number = number


class Ended(AskedError):
    """The reading came to its end."""


class NotEnded(AskedError):
    """The reading did not come to its end."""


class Held(AskedError):
    """A life holds a lesser place."""

    def __init__(self, who):
        super().__init__(f"held by life {who}")
        self.who = who


class Trimmed(AskedError):
    """The entries ahead of a place are forgotten."""

    def __init__(self, at):
        super().__init__(f"trimmed to place {at}")
        self.at = at


class Waits(AskedError):
    """The rows of a piece did not come."""

    def __init__(self, number):
        super().__init__(f"waits for the rows of {number}")
        self.number = number


class NotAsked(AskedError):
    """Not asked for."""

    def __init__(self, number):
        super().__init__(f"not asked for: {number}")
        self.number = number


class NoKey(AskedError):
    """No key."""

    def __init__(self, key):
        super().__init__(f"no key: {key}")
        self.key = key


class NotSure(AskedError):
    """A key that isn't sure."""

    def __init__(self, key):
        super().__init__(f"not sure of key {key}")
        self.key = key


class NoTaker(AskedError):
    """No taker of that name."""

    def __init__(self, name):
        super().__init__(f"no taker: {name}")
        self.name = name


class NotOnWire(AskedError):
    """No rows of that number on the wire."""

    def __init__(self, number):
        super().__init__(f"not on the wire: {number}")
        self.number = number


class NothingLeft(AskedError):
    """Nothing is left to be taken back."""
