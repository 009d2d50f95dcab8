"""Steps of a hall, drawn so that most of them can be done, and now and then one is refused."""

NAMES = ("ann", "bob", "cid")
KEYS = (*range(12), 500, 998, 999)
EDGES = (0, 1, 4, 9, 12, 500, 501, 999, 1000)
KINDS = (("join",) * 2 + ("fall",) + ("save",) * 2 + ("change",) * 6 + ("ask",) * 4 + ("look",) * 9 + ("finish",) * 8
         + ("stop",) + ("deliver",) * 6 + ("lose",) * 2 + ("take",) * 8 + ("yield",) + ("trim",) * 2)


def some_changes(chance):
    changes = ()
    for at in range(chance.randint(1, 6)):
        key = chance.choice(KEYS)
        changes += (("drop", key) if chance.randrange(3) == 0 else ("put", key, chance.randrange(1000)),)
    return chance.choice(((), changes * 7, list(changes), (("put", 1000, 0),))) if chance.randrange(20) == 0 else changes


def one_of(chance, things, other):
    """One of them, or now and then another one."""
    return chance.choice(things) if things and chance.randrange(12) else other


def some_number(chance, numbers):
    return one_of(chance, numbers, chance.randint(-1, 9))


def some_step(chance, hall, keep=False):
    """A step for a hall by what it tells; where keep is true nothing is ever given up, stopped or lost."""
    word = chance.choice([kind for kind in KINDS if not keep or kind not in ("stop", "lose", "yield", "fall")])
    name = one_of(chance, hall.names(), chance.choice((*NAMES, "zed", "", "Ann")))
    if word == "join":
        return (word, chance.choice((*NAMES, "Cid")) if chance.randrange(5) == 0 else chance.choice(NAMES))
    if word == "change":
        return (word, some_changes(chance))
    if word == "ask":
        first, last = sorted(chance.sample(EDGES, 2))
        return (word, name, first, last if chance.randrange(20) else first)
    if word == "look":
        numbers = [row[0] for row in hall.readings() if not row[4]]
        return (word, some_number(chance, numbers), chance.choice((0, 1, 2, 3, 50, 50)) - 51 * (chance.randrange(30) == 0))
    if word == "finish":
        return (word, some_number(chance, [row[0] for row in hall.readings() if row[4]]))
    if word == "stop":
        return (word, some_number(chance, [row[0] for row in hall.readings()]))
    if word in ("deliver", "lose"):
        return (word, some_number(chance, [row[0] for row in hall.wire()]))
    if word == "take":
        return (word, name, chance.choice((1, 2, 5, 50, 51 if chance.randrange(9) == 0 else 9)))
    if word == "yield":
        asked = [row[0] for row in hall.asked(name)] if name in hall.names() else []
        return (word, name, some_number(chance, asked))
    return (word,) if word == "trim" else (word, name)
