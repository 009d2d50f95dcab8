"""The hall: a house, takers and the wire between, changed by steps that can be taken back."""

from tidecopy.errors import NothingLeft, TooMany
from tidecopy.house import FEW, House
from tidecopy.scene import Scene, do_step
from tidecopy.tables import KEYS

MOST = 300


class Hall:
    """At most so many things are done, those taken back not counted; NoTable."""

    def __init__(self, table=(), *, most=MOST):
        self.scene = Scene(House(table))
        self.most = most
        self.busy = False
        # The scene ahead of each thing that was done; none of them is ever changed.
        self.past = []

    def do(self, step):
        """Do one step; told is its answer; refused as the method of its name refuses."""
        return self.together([step])[0]

    def together(self, steps):
        """Do steps as one thing; told are their answers; refused as the first one that is refused, then TooMany."""
        self.busy = True
        try:
            scene = self.scene.copied()
            answers = []
            for step in steps:
                answers.append(do_step(scene, step))
            if len(self.past) >= self.most:
                raise TooMany(self.most)
            self.past.append(self.scene)
            self.scene = scene
        finally:
            self.busy = False
        return answers

    def take_back(self):
        """Take back what was done last; NothingLeft."""
        if not self.past:
            raise NothingLeft("nothing is left to be taken back")
        self.scene = self.past.pop()

    def join(self, name):
        """Let a taker begin at the log's end; NoName, Twice, TooMany."""
        return self.do(("join", name))

    def fall(self, name):
        """Let a taker begin again with what it saved last; NoTaker, TooMany."""
        return self.do(("fall", name))

    def save(self, name):
        """Let a taker save what it has, and hold its place; NoTaker, TooMany."""
        return self.do(("save", name))

    def change(self, changes):
        """Do a group of changes; NoChange, TooMany."""
        return self.do(("change", changes))

    def ask(self, name, first, last):
        """Let a taker ask for a stretch; told is the number; NoTaker, NoStretch, TooMany."""
        return self.do(("ask", name, first, last))

    def look(self, number, *, many=FEW):
        """Look on by so many looks; told are the rows found; NoPlace, NoReading, Ended, TooMany."""
        return self.do(("look", number, many))

    def finish(self, number):
        """Put the rows of a reading that ended on the wire, and tell them; NoReading, NotEnded, TooMany."""
        return self.do(("finish", number))

    def stop(self, number):
        """Stop a reading, which its taker gives up; NoReading, TooMany."""
        return self.do(("stop", number))

    def deliver(self, number):
        """Bring the rows on the wire to their taker, if it still asks for them; NotOnWire, TooMany."""
        return self.do(("deliver", number))

    def lose(self, number):
        """Lose the rows on the wire; NotOnWire, TooMany."""
        return self.do(("lose", number))

    def take(self, name, *, many=1):
        """Let a taker take up to so many entries; told is how many; NoPlace, NoTaker, TooMany."""
        return self.do(("take", name, many))

    def give_up(self, name, number):
        """Let a taker give a number up; NoTaker, NotAsked, TooMany."""
        return self.do(("yield", name, number))

    def trim(self):
        """Trim the log to the least place held, to its end without any; told is the first kept place; TooMany."""
        return self.do(("trim",))

    def table(self):
        return self.scene.house.table()

    def places(self):
        """The first kept place, and how long the log is in all."""
        return self.scene.house.places()

    def entries(self, place, *, many=FEW):
        """Up to so many entries from a place on; NoPlace, Trimmed."""
        return self.scene.house.entries(place, many=many)

    def holds(self):
        """The places held, as pairs (life, place), lives rising."""
        return self.scene.house.holds()

    def readings(self):
        """Open readings: (number, life, stretch, rows so far, whether it ended), numbers rising."""
        return self.scene.house.readings()

    def names(self):
        """The names of all takers, rising."""
        return sorted(self.scene.takers)

    def wire(self):
        """What is on the wire: (number, name, rows), by numbers."""
        return self.scene.told_wire()

    def place(self, name):
        """The place of a taker; NoTaker."""
        return self.scene.taker(name).place()

    def rows(self, name):
        """The rows of a taker; NoTaker."""
        return self.scene.taker(name).rows()

    def sure(self, name):
        """The stretches that a taker is sure of; NoTaker."""
        return self.scene.taker(name).sure()

    def worth(self, name, key):
        """The worth that a key has for a taker, None where it isn't there; NoTaker, NoKey, NotSure."""
        return self.scene.taker(name).worth(key)

    def events(self, name):
        """What a taker gave out; NoTaker."""
        return self.scene.taker(name).events()

    def asked(self, name):
        """What a taker asks for; NoTaker."""
        return self.scene.taker(name).asked()

    def saved(self, name):
        """What a taker saved last; NoTaker."""
        self.scene.taker(name)
        return self.scene.last_saved[name]

    def is_whole(self, name):
        """Whether a taker is sure of all keys; NoTaker."""
        return self.sure(name) == ((0, KEYS),)

    def __len__(self):
        return len(self.table())

    def __eq__(self, other):
        return isinstance(other, Hall) and self.scene.told() == other.scene.told()
