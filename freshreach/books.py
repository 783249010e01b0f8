"""The book, which tells to which house a name leads, and what a yard keeps of it."""

from freshreach.errors import NoMoment, NoName, NoNames, NoNumber, NoPlace
from freshreach.kinds import check_moment, is_place, is_within, is_word
from freshreach.plans import are_names, is_age

# A book isn't told the roles of the places: each place that a plan may have may be a house.
ALL_HOUSES = ("house",) * 8


class Book:
    """Tells where each of its names leads, now and at any moment up to now."""

    def __init__(self, names):
        if not are_names(names, ALL_HOUSES):
            raise NoNames("no names were handed in")
        self.last = 0
        self.ages = {name: age for name, house, age in names}
        # name: a list of (moment, house), in the order in which it was led there
        self.leads = {name: [(0, house)] for name, house, age in names}

    def lead(self, name, house, now):
        """Leads the name to another place from now on."""
        self.check_name(name)
        if not is_place(house):
            raise NoPlace("no place was handed in")
        check_moment(now, self.last)
        self.last = now
        self.leads[name].append((now, house))

    def told(self, name, now):
        """(house, age) as it is now, None of what is none of its names."""
        check_moment(now, self.last)
        self.last = now
        if not self.has_name(name):
            return None
        return self.leads[name][-1][1], self.ages[name]

    def led(self, name, moment):
        """To which place the name led behind all that was done at a moment up to the last one."""
        self.check_name(name)
        if not is_within(moment, 0, self.last):
            raise NoMoment("no moment up to the last one was handed in")
        return [house for since, house in self.leads[name] if since <= moment][-1]

    def has_name(self, name):
        # What is no text may be a thing that can't be looked up.
        return isinstance(name, str) and name in self.ages

    def check_name(self, name):
        if not self.has_name(name):
            raise NoName("none of the book's names was handed in")


class NameKeep:
    """Keeps of each name what was told of it last."""

    def __init__(self):
        # name: (house, age, at)
        self.kept = {}

    def put(self, name, house, age, at):
        """Keeps that the name was told, at a moment, to lead to the house; what was told later stays."""
        check_word(name)
        if not is_place(house):
            raise NoPlace("no place was handed in")
        if not is_age(age):
            raise NoNumber("no age was handed in")
        check_moment(at, 0)
        if name in self.kept and self.kept[name][2] > at:
            return
        self.kept[name] = (house, age, at)

    def get(self, name, now):
        """(house, at) where what is kept of the name is good now, else None."""
        check_word(name)
        check_moment(now, 0)
        if name not in self.kept:
            return None
        house, age, at = self.kept[name]
        return (house, at) if at <= now <= at + age else None

    def rows(self):
        """All (name, house, age, at) that are kept, good or not."""
        return tuple([(name, *self.kept[name]) for name in sorted(self.kept)])


def check_word(name):
    if not is_word(name):
        raise NoName("no word was handed in as a name")
