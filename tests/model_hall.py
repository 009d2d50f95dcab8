"""A plain and slow model of the hall: to take something back, all else is done again from the beginning."""

import copy

from tests.models import ModelHouse, ModelTaker, Refused


def is_model_name(thing):
    return type(thing) is str and len(thing) in range(1, 9) and set(thing) <= set("abcdefghijklmnopqrstuvwxyz")


class ModelFloor:
    """A house, takers, what each one saved last, and the wire, a list of [number, name, rows]."""

    def __init__(self, table):
        self.house, self.takers, self.saves, self.sent = ModelHouse(table), {}, {}, []

    def taker(self, name):
        if name not in self.takers:
            raise Refused("NoTaker", name=name)
        return self.takers[name]

    def owner(self, number):
        """The name of the taker whose life began the reading; a life that left has no open readings."""
        life = self.house.reads[number]["life"]
        return [name for name, taker in self.takers.items() if taker.life() == life][0]

    def begin(self, name):
        life = self.house.life()
        self.takers[name] = ModelTaker(life, saved=self.saves[name])
        self.house.hold(life, self.saves[name][0])

    def join(self, name):
        if not is_model_name(name):
            raise Refused("NoName")
        if name in self.takers:
            raise Refused("Twice")
        self.saves[name] = (len(self.house.log), (), ())
        self.begin(name)

    def fall(self, name):
        self.house.leave(self.taker(name).life())
        self.sent = [row for row in self.sent if row[1] != name]
        self.begin(name)

    def save(self, name):
        self.saves[name] = self.taker(name).saved()
        self.house.hold(self.taker(name).life(), self.taker(name).place())

    def change(self, changes):
        self.house.change(changes)

    def ask(self, name, first, last):
        number = self.house.begin(self.taker(name).life(), first, last)
        self.taker(name).ask(number, first, last)
        return number

    def look(self, number, many):
        if many not in range(51):
            raise Refused("NoPlace", at=many)
        return self.house.look(number, many=many)

    def finish(self, number):
        rows = self.house.finish(number)
        self.sent.append([number, self.owner(number), rows])
        return rows

    def asks(self, name, number):
        return number in [row[0] for row in self.taker(name).asked()]

    def stop(self, number):
        self.house.stop(number)
        if self.asks(self.owner(number), number):
            self.taker(self.owner(number)).give_up(number)

    def off_wire(self, number):
        for row in self.sent:
            if row[0] == number:
                self.sent.remove(row)
                return row
        raise Refused("NotOnWire", number=number)

    def deliver(self, number):
        number, name, rows = self.off_wire(number)
        if self.asks(name, number):
            self.taker(name).answer(number, rows)

    def lose(self, number):
        self.off_wire(number)

    def take(self, name, many):
        if many not in range(1, 51):
            raise Refused("NoPlace", at=many)
        taker, taken = self.taker(name), 0
        while taken < many and taker.place() < len(self.house.log):
            try:
                taker.take(self.house.log[taker.place()])
            except Refused:
                break
            taken += 1
        return taken

    def give_up(self, name, number):
        self.taker(name).give_up(number)

    def trim(self):
        places = [place for life, place in self.house.holds()]
        self.house.trim(min(places) if places else len(self.house.log))
        return self.house.kept

    def do(self, step):
        word, *parts = step
        return getattr(self, "give_up" if word == "yield" else word)(*parts)


class ModelHall:
    def __init__(self, table=(), *, most=300):
        self.made_of, self.most, self.things, self.busy = table, most, [], False
        self.floor = ModelFloor(table)

    def do(self, step):
        return self.together([step])[0]

    def together(self, steps):
        floor = copy.deepcopy(self.floor)
        answers = [floor.do(step) for step in steps]
        if len(self.things) == self.most:
            raise Refused("TooMany", many=self.most)
        self.things.append(list(steps))
        self.floor = floor
        return answers

    def take_back(self):
        if not self.things:
            raise Refused("NothingLeft")
        self.things.pop()
        self.floor = ModelFloor(self.made_of)
        for steps in self.things:
            for step in steps:
                self.floor.do(step)

    def table(self):
        return self.floor.house.table()

    def places(self):
        return self.floor.house.places()

    def entries(self, place, *, many=5):
        return self.floor.house.entries(place, many=many)

    def holds(self):
        return self.floor.house.holds()

    def readings(self):
        return self.floor.house.readings()

    def names(self):
        return sorted(self.floor.takers)

    def wire(self):
        return sorted(tuple(row) for row in self.floor.sent)

    def place(self, name):
        return self.floor.taker(name).place()

    def rows(self, name):
        return self.floor.taker(name).rows()

    def sure(self, name):
        return self.floor.taker(name).sure()

    def events(self, name):
        return self.floor.taker(name).events()

    def asked(self, name):
        return self.floor.taker(name).asked()

    def saved(self, name):
        self.floor.taker(name)
        return self.floor.saves[name]

    def is_whole(self, name):
        return self.floor.taker(name).sure() == ((0, 1000),)

    def __len__(self):
        return len(self.table())


OF_HALL = ("table", "places", "names", "wire", "holds", "readings")
OF_TAKER = ("place", "rows", "sure", "events", "asked", "saved", "is_whole")


def hall_state(hall):
    """All that is told of a hall, as written."""
    kept = hall.entries(hall.places()[0], many=10 ** 6)
    takers = [[name] + [getattr(hall, ask)(name) for ask in OF_TAKER] for name in hall.names()]
    return repr([[getattr(hall, ask)() for ask in OF_HALL], kept, takers, len(hall), hall.busy])
