"""All that a hall has at one moment, and the steps that change it.

A step that is refused may leave a scene half changed. So a hall does each one to a copy.
"""

from tidecopy.errors import NoName, NoPlace, NoTaker, NotOnWire, Twice, Waits
from tidecopy.takers import Taker
from tidecopy.texts import is_name

MOST_AT_ONCE = 50


class Scene:
    """A house, takers by names, what each one saved last, and the wire."""

    def __init__(self, house):
        self.house = house
        self.takers = {}
        self.last_saved = {}
        # The name of the taker that asked for a number; and what is on the wire, as pairs (name, rows) by numbers.
        self.askers = {}
        self.sent = {}

    def copied(self):
        """A scene that goes on by itself from here."""
        twin = Scene(self.house.copied())
        # Takers are copied as they are changed, one by one.
        twin.takers = dict(self.takers)
        twin.last_saved = dict(self.last_saved)
        twin.askers = dict(self.askers)
        twin.sent = dict(self.sent)
        return twin

    def taker(self, name):
        """A taker that is to be asked, not changed; NoTaker."""
        if name not in self.takers:
            raise NoTaker(name)
        return self.takers[name]

    def own_taker(self, name):
        """A taker that may be changed; NoTaker."""
        self.takers[name] = self.taker(name).copied()
        return self.takers[name]

    def settle(self, name, saved):
        """Let a taker begin with what was saved, by a new life that holds that place."""
        life = self.house.life()
        self.house.hold(life, saved[0])
        self.takers[name] = Taker(life, saved=saved)
        self.last_saved[name] = saved

    def unsent(self, number):
        """Take rows off the wire; told are the name and the rows; NotOnWire."""
        if number not in self.sent:
            raise NotOnWire(number)
        return self.sent.pop(number)

    def told(self):
        """All that is told of it, to be compared with another one."""
        house = self.house
        first, last = house.places()
        takers = []
        for name in sorted(self.takers):
            taker = self.takers[name]
            takers.append((name, taker.saved(), taker.events(), taker.asked(), self.last_saved[name]))
        entries = house.entries(first, many=last - first)
        return (house.table(), first, entries, house.holds(), house.readings(), house.lives_given, house.begun,
                takers, self.told_wire())

    def told_wire(self):
        """What is on the wire: (number, name, rows), by numbers."""
        told = []
        for number in sorted(self.sent):
            name, rows = self.sent[number]
            told.append((number, name, rows))
        return told


def check_many(many, least):
    if not least <= many <= MOST_AT_ONCE:
        raise NoPlace(many)


def do_join(scene, name):
    """NoName, Twice."""
    if not is_name(name):
        raise NoName("no name")
    if name in scene.takers:
        raise Twice("that name joined")
    place = scene.house.places()[1]
    scene.settle(name, (place, (), ()))


def do_fall(scene, name):
    """NoTaker."""
    scene.house.leave(scene.taker(name).life())
    scene.sent = {number: row for number, row in scene.sent.items() if row[0] != name}
    scene.settle(name, scene.last_saved[name])


def do_save(scene, name):
    """NoTaker."""
    taker = scene.taker(name)
    scene.last_saved[name] = taker.saved()
    scene.house.hold(taker.life(), taker.place())


def do_change(scene, changes):
    """NoChange, TooMany."""
    scene.house.change(changes)


def do_ask(scene, name, first, last):
    """Told is the number; NoTaker, NoStretch."""
    taker = scene.own_taker(name)
    number = scene.house.begin(taker.life(), first, last)
    taker.ask(number, first, last)
    scene.askers[number] = name
    return number


def do_look(scene, number, many):
    """Told are the rows found; NoPlace of many, NoReading, Ended."""
    check_many(many, 0)
    return scene.house.look(number, many=many)


def do_finish(scene, number):
    """Told are all rows; NoReading, NotEnded."""
    rows = scene.house.finish(number)
    scene.sent[number] = (scene.askers[number], rows)
    return rows


def do_stop(scene, number):
    """NoReading."""
    scene.house.stop(number)
    taker = scene.own_taker(scene.askers[number])
    # The taker may have given it up ahead of this.
    if taker.asks_for(number):
        taker.give_up(number)


def do_deliver(scene, number):
    """NotOnWire."""
    name, rows = scene.unsent(number)
    taker = scene.own_taker(name)
    if taker.asks_for(number):
        taker.answer(number, rows)


def do_lose(scene, number):
    """NotOnWire."""
    scene.unsent(number)


def do_take(scene, name, many):
    """Told is how many entries were taken; NoPlace of many, NoTaker."""
    check_many(many, 1)
    taker = scene.own_taker(name)
    ahead = taker.place()
    try:
        for entry in scene.house.entries(ahead, many=many):
            taker.take(entry)
    except Waits:
        pass
    return taker.place() - ahead


def do_give_up(scene, name, number):
    """NoTaker, NotAsked."""
    scene.own_taker(name).give_up(number)


def do_trim(scene):
    """Told is the first kept place."""
    place = min([held for life, held in scene.house.holds()], default=scene.house.places()[1])
    scene.house.trim(place)
    return place


ACTIONS = {
    "join": do_join,
    "fall": do_fall,
    "save": do_save,
    "change": do_change,
    "ask": do_ask,
    "look": do_look,
    "finish": do_finish,
    "stop": do_stop,
    "deliver": do_deliver,
    "lose": do_lose,
    "take": do_take,
    "yield": do_give_up,
    "trim": do_trim,
}


def do_step(scene, step):
    """Do a step; told is its answer, None where it has none."""
    word, *parts = step
    action = ACTIONS[word]
    return action(scene, *parts)
