"""Doors: numbers that are given to keys, and led back to them as long as they are held."""

from freshreach.errors import NoKey, NoNumber
from freshreach.kinds import check_moment, is_from, is_whole
from freshreach.plans import are_numbers, is_rest


class Door:
    """Gives each key a number; a key that isn't told of for longer than the rest loses it."""

    def __init__(self, rest, numbers):
        if not is_rest(rest):
            raise NoNumber("no rest was handed in")
        if not are_numbers(numbers):
            raise NoNumber("how many numbers there are was not handed in")
        self.rest = rest
        self.numbers = numbers
        self.last = 0
        # number: (key, the moment at which it was last told)
        self.uses = {}

    def out(self, key, now):
        """The number that the key has from now on, None where all numbers are held by others."""
        if not is_from(key, 0):
            raise NoKey("no key was handed in")
        self.come_to(now)
        number = self.number_for(key)
        if number is not None:
            self.uses[number] = (key, now)
        return number

    def back(self, number, now):
        """The key that holds the number, None where none does, of anything as the number."""
        self.come_to(now)
        # True equals 1, and a list can't be looked up.
        if not is_whole(number) or number not in self.uses:
            return None
        key = self.uses[number][0]
        self.uses[number] = (key, now)
        return key

    def rows(self, now):
        """All (number, key, last) of the numbers that are held now."""
        check_moment(now, self.last)
        held = self.held_at(now)
        return tuple([(number, *held[number]) for number in sorted(held)])

    def come_to(self, now):
        check_moment(now, self.last)
        self.last = now
        self.uses = self.held_at(now)

    def held_at(self, now):
        return {number: use for number, use in self.uses.items() if now <= use[1] + self.rest}

    def number_for(self, key):
        """The number that the key holds, else the least one that none holds, None where there is none."""
        for number, use in self.uses.items():
            if use[0] == key:
                return number
        for number in range(self.numbers):
            if number not in self.uses:
                return number
        return None
