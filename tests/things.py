"""What several tests share: things of any kind, weavings, and a plain model of the document."""

import random


def nested(depth, kind):
    thing = kind()
    for at in range(depth - 1):
        thing = kind([thing])
    return thing


ANYTHING = [
    None, True, False, 0, 1, -1, 999, 1000, 10 ** 40 - 1, -(10 ** 40 - 1),
    "", "put", "drop", "group", "low", "high", "0", "a\nb", "~" * 10000,
    [], (), [()], ([],), ((),), [[]], (0,), (0, 0), [0, 0], (0, 0, 0), ("put", 0, 0), ["put", 0, 0],
    ("drop", 0), ("group", ()), ("group", []), ("low",), ("low", 1), ("low", 1, 0, 0), ("", 1, 0),
    (None, None), (None, None, None), (True, True), ("group", None), ("group", "group"),
    nested(30, list), nested(30, tuple), [0] * 500, (0,) * 500, [()] * 500, ((),) * 500,
]


def with_part(thing, at, part):
    return type(thing)([*thing[:at], part, *thing[at + 1:]])


def spoiled(thing):
    """The thing with one part, at any depth, changed, gone or twice, or of another kind."""
    yield from ANYTHING
    if isinstance(thing, (list, tuple)):
        yield (list if isinstance(thing, tuple) else tuple)(thing)
        for at, part in enumerate(thing):
            yield type(thing)([*thing[:at], *thing[at + 1:]])
            yield type(thing)([*thing[:at], part, *thing[at:]])
            for other in spoiled(part):
                yield with_part(thing, at, other)
    elif isinstance(thing, int):
        yield from (bool(thing), thing - 1, thing + 1, -thing - 1, thing + 1000, str(thing), (thing,), [thing])
    elif isinstance(thing, str):
        yield from (thing[:-1], thing + " ", thing.upper(), (thing,), [thing])


def model_table_at(table, log, place):
    """The table as pairs that are searched through: slow, and nothing of the program's."""
    rows = list(table)
    for entry in log[:place]:
        for change in entry[1] if entry[0] == "group" else ():
            rows = [row for row in rows if row[0] != change[1]]
            if change[0] == "put":
                rows.append((change[1], change[2]))
    return tuple(sorted(rows))


def model_looks(tables, stretch, moments):
    """What each look finds, one for each moment; None for each one that finds nothing."""
    found = []
    for moment in moments:
        ahead = [row[0] for row in found if row is not None]
        left = [row for row in tables[moment]
                if stretch[0] <= row[0] < stretch[1] and all(row[0] > key for key in ahead)]
        found.append(min(left) if left else None)
    return found


def some_table(chance, keys, most):
    return tuple((key, chance.randrange(3)) for key in sorted(chance.sample(keys, chance.randint(0, most))))


def some_entry(chance, keys):
    if chance.randrange(5) == 0:
        return (chance.choice(("low", "high")), chance.randint(1, 3), chance.randrange(4))
    changes = []
    for at in range(chance.randint(1, 3)):
        key = chance.choice(keys)
        changes.append(("drop", key) if chance.randrange(2) else ("put", key, chance.randrange(3)))
    return ("group", tuple(changes))


def weavings(seed, many, longest, keys):
    """Tables and logs, always the same ones of a seed."""
    chance = random.Random(seed)
    for at in range(many):
        table = some_table(chance, keys, min(4, len(keys)))
        yield chance, table, [some_entry(chance, keys) for at in range(chance.randint(0, longest))]
