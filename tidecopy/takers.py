"""Takers: each copies a house's table by the entries of its log, and by pieces of the table."""

from tidecopy.errors import NoKey, NoRows, NoStretch, NotAsked, NotSure, Twice, Waits
from tidecopy.joining import known_rows, learn_change, learn_piece
from tidecopy.readings import is_stretch, stretches_of
from tidecopy.tables import is_key, is_rows


class Piece:
    """A piece that is asked for; its rows None until they come."""

    def __init__(self, first, last):
        self.stretch = (first, last)
        self.under_way = False
        self.came = None

    def copied(self):
        first, last = self.stretch
        twin = Piece(first, last)
        twin.under_way = self.under_way
        twin.came = self.came
        return twin


class Taker:
    """What a life is sure of, and what it gave out."""

    def __init__(self, life, *, place=0, saved=None):
        self.own_life = life
        self.at = place
        self.known = {}
        self.given = []
        # Pieces that are asked for still, and each number that was asked for ever.
        self.pieces = {}
        self.numbers = {}
        if saved is not None:
            self.begin_with(saved)

    def begin_with(self, saved):
        self.at, rows, sure = saved
        for first, last in sure:
            learn_piece(self.known, (first, last), rows)

    def copied(self):
        """A taker that goes on by itself from here."""
        twin = Taker(self.own_life, place=self.at)
        twin.known = dict(self.known)
        twin.given = list(self.given)
        twin.pieces = {number: piece.copied() for number, piece in self.pieces.items()}
        twin.numbers = dict(self.numbers)
        return twin

    def take(self, entry):
        """Take the next entry; Waits, and it is not taken."""
        if entry[0] == "group":
            self.take_group(entry[1])
        elif entry[1] == self.own_life and entry[2] in self.pieces:
            self.take_mark(entry[0], entry[2])
        self.at += 1

    def take_group(self, changes):
        for change in changes:
            learn_change(self.known, change)
            self.give_out(change[0], change[1])

    def take_mark(self, word, number):
        piece = self.pieces[number]
        if word == "low":
            piece.under_way = True
            return
        if piece.under_way:
            if piece.came is None:
                raise Waits(number)
            self.copy_piece(piece)
        # Done or, where no low mark was taken, given up: rows read ahead of the taker's place may be old.
        del self.pieces[number]

    def copy_piece(self, piece):
        for key in learn_piece(self.known, piece.stretch, piece.came):
            if self.known[key] is not None:
                self.give_out("copy", key)

    def give_out(self, word, key):
        """Give out what the key has now, at the place behind the entry that is being taken."""
        self.given.append((self.at + 1, word, key, self.known[key]))

    def ask(self, number, first, last):
        """Ask for a piece; Twice, NoStretch."""
        if number in self.numbers:
            raise Twice("that number was asked for")
        if not is_stretch(first, last):
            raise NoStretch("no stretch of keys")
        self.numbers[number] = True
        self.pieces[number] = Piece(first, last)

    def answer(self, number, rows):
        """Let the rows of a piece come; NotAsked, Twice, NoRows."""
        piece = self.asked_piece(number)
        if piece.came is not None:
            raise Twice("the rows of that number came")
        first, last = piece.stretch
        if not is_rows(rows, first, last):
            raise NoRows("no rows of the stretch")
        piece.came = rows

    def give_up(self, number):
        """Give a number up: marks of it do nothing any more; NotAsked."""
        self.asked_piece(number)
        del self.pieces[number]

    def life(self):
        return self.own_life

    def place(self):
        return self.at

    def rows(self):
        """The rows of all sure keys that are there, keys rising."""
        return known_rows(self.known)

    def sure(self):
        """The fewest stretches of all keys that it is sure of."""
        return stretches_of(sorted(self.known))

    def worth(self, key):
        """The worth of a key, None where it isn't there; NoKey, NotSure."""
        if not is_key(key):
            raise NoKey(key)
        if key not in self.known:
            raise NotSure(key)
        return self.known[key]

    def events(self):
        """What it gave out, as tuples (place, word, key, worth)."""
        return list(self.given)

    def asked(self):
        """What is asked for: (number, stretch, whether it is under way, whether its rows came), numbers rising."""
        told = []
        for number in sorted(self.pieces):
            piece = self.pieces[number]
            told.append((number, piece.stretch, piece.under_way, piece.came is not None))
        return told

    def saved(self):
        """What is to be saved, and is to be begun with."""
        return (self.at, self.rows(), self.sure())

    def asks_for(self, number):
        return number in self.pieces

    def asked_piece(self, number):
        if number not in self.pieces:
            raise NotAsked(number)
        return self.pieces[number]

    def __len__(self):
        return len(self.rows())

    def __eq__(self, other):
        return isinstance(other, Taker) and self.saved() == other.saved()
