"""Plain and slow models of joining, house and takers, and how an answer or a refusal is compared."""

from tests.things import model_looks, model_table_at
from tidecopy.errors import TideError
from tidecopy.tables import is_entry, is_table


class Refused(Exception):
    def __init__(self, name, /, **fields):
        super().__init__(name)
        self.name = name
        self.fields = fields


def outcome(ask, *args, **named):
    """What is told, as written, so that truths are no numbers and tuples no lists; or the refusal and its fields."""
    try:
        return repr(ask(*args, **named))
    except TideError as error:
        return (type(error).__name__, vars(error))
    except Refused as refused:
        return (refused.name, refused.fields)


def model_stretches(keys):
    """One stretch from each key that has none ahead of it to the next one that has none behind it."""
    firsts = [key for key in range(1000) if key in keys and key - 1 not in keys]
    lasts = [key + 1 for key in range(1000) if key in keys and key + 1 not in keys]
    return tuple(zip(firsts, lasts))


def is_model_stretch(first, last):
    return first in range(1000) and last in range(1, 1001) and first < last


def model_joined(log, pieces, place, start=0):
    """Each key from 0 to 999 by itself."""
    rows, gaps = [], set()
    for key in range(1000):
        given = [change for entry in log[start:place] if entry[0] == "group" for change in entry[1] if change[1] == key]
        ended = [piece for piece in pieces if piece[1] <= place and piece[2][0] <= key < piece[2][1]]
        if given:
            rows.extend((key, change[2]) for change in given[-1:] if change[0] == "put")
        elif ended:
            rows.extend(row for row in ended[0][3] if row[0] == key)
        else:
            gaps.add(key)
    return (tuple(rows), model_stretches(gaps))


class ModelHouse:
    """Keeps all entries, the table behind each of them, and of each reading the moments of its looks."""

    def __init__(self, table=()):
        if not is_table(table):
            raise Refused("NoTable")
        self.tables, self.log, self.kept, self.given, self.here, self.reads = [table], [], 0, 0, {}, []

    def write(self, entry):
        self.log.append(entry)
        self.tables.append(model_table_at(self.tables[-1], [entry], 1))

    def change(self, changes):
        if not is_entry(("group", changes)):
            raise Refused("NoChange")
        many = len(model_table_at(self.tables[-1], [("group", changes)], 1))
        if many > 100:
            raise Refused("TooMany", many=many)
        self.write(("group", changes))

    def life(self):
        self.given += 1
        self.here[self.given] = None
        return self.given

    def begin(self, life, first, last):
        if life not in self.here:
            raise Refused("NoLife", who=life)
        if not is_model_stretch(first, last):
            raise Refused("NoStretch")
        self.reads.append({"life": life, "stretch": (first, last), "moments": [], "going": True})
        self.write(("low", life, len(self.reads) - 1))
        return len(self.reads) - 1

    def reading(self, number):
        if number not in range(len(self.reads)) or not self.reads[number]["going"]:
            raise Refused("NoReading", number=number)
        return self.reads[number]

    def found(self, number):
        return model_looks(self.tables, self.reads[number]["stretch"], self.reads[number]["moments"])

    def rows_of(self, number):
        return tuple(row for row in self.found(number) if row is not None)

    def look(self, number, *, many=5):
        reading = self.reading(number)
        if None in self.found(number):
            raise Refused("Ended")
        ahead = len(reading["moments"])
        for at in range(many):
            if None not in self.found(number):
                reading["moments"].append(len(self.log))
        return self.rows_of(number)[ahead:]

    def finish(self, number):
        reading = self.reading(number)
        if None not in self.found(number):
            raise Refused("NotEnded")
        reading["going"] = False
        self.write(("high", reading["life"], number))
        return self.rows_of(number)

    def stop(self, number):
        self.reading(number)["going"] = False

    def hold(self, life, place):
        if life not in self.here:
            raise Refused("NoLife", who=life)
        if place not in range(self.kept, len(self.log) + 1):
            raise Refused("NoPlace", at=place)
        self.here[life] = place

    def leave(self, life):
        if life not in self.here:
            raise Refused("NoLife", who=life)
        del self.here[life]
        for reading in self.reads:
            reading["going"] = reading["going"] and reading["life"] != life

    def trim(self, place):
        if place not in range(self.kept, len(self.log) + 1):
            raise Refused("NoPlace", at=place)
        lesser = [life for life, held in self.holds() if held < place]
        if lesser:
            raise Refused("Held", who=min(lesser))
        self.kept = place

    def table(self):
        return self.tables[-1]

    def places(self):
        return (self.kept, len(self.log))

    def entries(self, place, *, many=5):
        if place > len(self.log):
            raise Refused("NoPlace", at=place)
        if place < self.kept:
            raise Refused("Trimmed", at=self.kept)
        return [entry for at, entry in enumerate(self.log) if place <= at < place + many]

    def holds(self):
        return sorted((life, held) for life, held in self.here.items() if held is not None)

    def readings(self):
        return [(number, reading["life"], reading["stretch"], self.rows_of(number), None in self.found(number))
                for number, reading in enumerate(self.reads) if reading["going"]]


class ModelTaker:
    """Knows of each key that it is sure of what it has, None for nothing, and keeps every number asked for."""

    def __init__(self, life, *, place=0, saved=None):
        self.who, self.at, self.has, self.gave, self.numbers = life, place, {}, [], {}
        if saved is not None:
            self.at = saved[0]
            self.has = {key: dict(saved[1]).get(key) for first, last in saved[2] for key in range(first, last)}

    def take(self, entry):
        if entry[0] == "group":
            for word, key, *worth in entry[1]:
                self.has[key] = worth[0] if worth else None
                self.gave.append((self.at + 1, word, key, self.has[key]))
        elif entry[1] == self.who and self.numbers.get(entry[2], {"over": True})["over"] is False:
            self.mark(entry[0], entry[2], self.numbers[entry[2]])
        self.at += 1

    def mark(self, word, number, piece):
        if word == "low":
            piece["going"] = True
        elif piece["going"] and piece["rows"] is None:
            raise Refused("Waits", number=number)
        else:
            piece["over"] = True
            for key in range(*piece["stretch"]):
                if piece["going"] and key not in self.has:
                    self.has[key] = dict(piece["rows"]).get(key)
                    if self.has[key] is not None:
                        self.gave.append((self.at + 1, "copy", key, self.has[key]))

    def ask(self, number, first, last):
        if number in self.numbers:
            raise Refused("Twice")
        if not is_model_stretch(first, last):
            raise Refused("NoStretch")
        self.numbers[number] = {"stretch": (first, last), "going": False, "rows": None, "over": False}

    def piece(self, number):
        if number not in self.numbers or self.numbers[number]["over"]:
            raise Refused("NotAsked", number=number)
        return self.numbers[number]

    def answer(self, number, rows):
        piece = self.piece(number)
        if piece["rows"] is not None:
            raise Refused("Twice")
        if not is_model_rows(rows, *piece["stretch"]):
            raise Refused("NoRows")
        piece["rows"] = rows

    def give_up(self, number):
        self.piece(number)["over"] = True

    def life(self):
        return self.who

    def place(self):
        return self.at

    def rows(self):
        return tuple((key, self.has[key]) for key in range(1000) if self.has.get(key) is not None)

    def sure(self):
        return model_stretches(self.has)

    def worth(self, key):
        if key not in range(1000):
            raise Refused("NoKey", key=key)
        if key not in self.has:
            raise Refused("NotSure", key=key)
        return self.has[key]

    def events(self):
        return list(self.gave)

    def asked(self):
        return [(number, piece["stretch"], piece["going"], piece["rows"] is not None)
                for number, piece in sorted(self.numbers.items()) if not piece["over"]]

    def saved(self):
        return (self.at, self.rows(), self.sure())

    def __len__(self):
        return len(self.rows())


def is_model_rows(thing, first, last):
    if type(thing) is not tuple or any(type(row) is not tuple or len(row) != 2 for row in thing):
        return False
    if any(type(part) is not int for row in thing for part in row):
        return False
    keys = [key for key, worth in thing]
    return keys == sorted(set(keys)) and all(first <= key < last and 0 <= worth <= 999 for key, worth in thing)
