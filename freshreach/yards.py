"""Yards: what is within a door, and the asks that are asked there."""

from freshreach.books import NameKeep
from freshreach.doors import Door
from freshreach.keeps import Keep


class Yard:
    """What is within a door: the numbers that it gives, what is kept of names, what is kept of pages."""

    def __init__(self, rest, numbers, room):
        self.numbering = Door(rest, numbers)
        self.names = NameKeep()
        self.pages = Keep(room)


class Ask:
    """What is asked for, where, and how far it has come."""

    def __init__(self, number, door, name, page, age, ends):
        self.number = number
        self.door = door
        self.name = name
        self.page = page
        self.age = age
        # The moment at which its patience is over.
        self.ends = ends
        self.house = None
        self.pull = None
        # Its question: the place that is asked, the word, what stands behind the mark, the mark's count,
        # and the moment at which it was last sent, or wasn't for want of a number.
        self.place = None
        self.word = None
        self.wanted = ()
        self.count = 0
        self.tried = None
        self.ending = None
