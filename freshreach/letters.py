"""Letters on their ways: when each comes, and why it doesn't."""

from freshreach.roads import longs_from, whole_roads


class Post:
    """Numbers the letters, and hands them out at the moments at which they come."""

    def __init__(self, plan, weather):
        self.plan = plan
        self.fates = {number: fate for number, fate in weather}
        self.sent = 0
        # moment: the letters that come then, in the order in which they were sent
        self.coming = {}
        self.cuts = {}
        self.bars = {}
        # place: the longs from it by the roads that aren't cut, as far as they were asked for
        self.longs = {}

    def send(self, sender, receiver, body, now):
        """Sends a letter, and tells its number and why it is gone at once, None where it isn't."""
        letter = self.sent
        self.sent += 1
        long = self.longs_of(sender)[receiver]
        if long is None:
            return letter, "no way"
        # A letter that the weather doesn't name is one that is late by no moment.
        fate = self.fates.get(letter, ("late", 0))
        if fate[0] == "lost":
            return letter, "lost"
        for moment in comings(now + long, fate):
            self.coming.setdefault(moment, []).append((letter, sender, receiver, body))
        return letter, None

    def arrived(self, moment):
        """All (letter, sender, receiver, body) that come at the moment; they are told but once."""
        return self.coming.pop(moment, [])

    def cut(self, one, other):
        self.cuts[pair_of(one, other)] = True
        self.longs = {}

    def mend(self, one, other):
        self.cuts.pop(pair_of(one, other), None)
        self.longs = {}

    def bar(self, one, other):
        self.bars[pair_of(one, other)] = True

    def free(self, one, other):
        self.bars.pop(pair_of(one, other), None)

    def is_barred(self, one, other):
        return pair_of(one, other) in self.bars

    def longs_of(self, place):
        if place not in self.longs:
            self.longs[place] = longs_from(len(self.plan[0]), whole_roads(self.plan, self.cuts), place)
        return self.longs[place]


def comings(moment, fate):
    """The moments at which a letter comes that would come at this one but for its fate."""
    word, moments = fate
    if word == "late":
        return [moment + moments]
    return [moment, moment + moments]


def pair_of(one, other):
    """The two places, the lesser first."""
    return min(one, other), max(one, other)
