"""Near keeps: the pages that a yard keeps of what was read, at most as many as it has room for."""

from freshreach.errors import NoEntry, NoKey, NoNumber
from freshreach.kinds import check_moment, is_from, is_place, is_tuple, is_word
from freshreach.plans import is_age, is_page_text, is_room


class Keep:
    """Keeps an entry (version, text, age, at) for each key (house, page); the one used longest ago makes room."""

    def __init__(self, room):
        if not is_room(room):
            raise NoNumber("no room was handed in")
        self.room = room
        self.last = 0
        # key: (entry, the moment at which it was last used)
        self.kept = {}

    def put(self, key, entry, now):
        """Keeps the entry, unless the one that is kept of the key is newer."""
        check_key(key)
        if not is_entry(entry):
            raise NoEntry("no entry was handed in")
        self.come_to(now)
        if key in self.kept and is_newer(self.kept[key][0], entry):
            return
        self.kept[key] = (entry, now)
        if len(self.kept) > self.room:
            del self.kept[self.idlest_but(key)]

    def get(self, key, now):
        """The entry that is kept of the key, None where none is."""
        check_key(key)
        self.come_to(now)
        if key not in self.kept:
            return None
        entry = self.kept[key][0]
        self.kept[key] = (entry, now)
        return entry

    def again(self, key, version, age, at, now):
        """Lets the entry of this version be as fresh as told, and tells whether one of this version is kept."""
        check_key(key)
        if not is_from(version, 1):
            raise NoNumber("no version was handed in")
        if not is_age(age):
            raise NoNumber("no age was handed in")
        check_moment(at, 0)
        self.come_to(now)
        if key not in self.kept or self.kept[key][0][0] != version:
            return False
        entry, used = self.kept[key]
        if entry[3] <= at:
            self.kept[key] = ((version, entry[1], age, at), used)
        return True

    def rows(self):
        """All (key, entry, used) that are kept."""
        return tuple([(key, *self.kept[key]) for key in sorted(self.kept)])

    def come_to(self, now):
        check_moment(now, self.last)
        self.last = now

    def idlest_but(self, key):
        """Of all keys but this one the one used longest ago, of several the least."""
        return min([(self.kept[other][1], other) for other in self.kept if other != key])[1]


def check_key(key):
    if not is_tuple(key, 2, 2) or not is_place(key[0]) or not is_word(key[1]):
        raise NoKey("no key was handed in")


def is_entry(thing):
    if not is_tuple(thing, 4, 4):
        return False
    version, text, age, at = thing
    return is_from(version, 1) and is_page_text(text) and is_age(age) and is_from(at, 0)


def is_newer(one, other):
    return (one[0], one[3]) > (other[0], other[3])
