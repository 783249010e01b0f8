"""Plans, weathers and things of every kind that the tests share."""

SMALL = (
    ("house", "door", "book"),
    ((0, 1, 1), (0, 2, 1), (1, 2, 1)),
    (("a", 0, 0),),
    ((0, "a", "", 0),),
    (1, 1, 1, 1, 1),
)

GREAT = (
    ("house", "door", "book", "cross", "house", "door", "cross", "house"),
    (
        (0, 1, 9), (0, 2, 2), (0, 3, 1), (1, 2, 4), (1, 3, 7), (2, 3, 1), (2, 4, 6),
        (3, 4, 5), (3, 5, 9), (4, 5, 3), (4, 6, 8), (5, 6, 2), (5, 7, 9), (6, 7, 1),
    ),
    (("a", 7, 99), ("b", 0, 0), ("bc", 4, 7), ("zzzzzzzz", 0, 50)),
    (
        (0, "a", "", 0), (0, "b", "abcdefghijklmnop", 99), (0, "ba", "z", 5), (4, "a", "abc", 3),
        (4, "zzzzzzzz", "q", 8), (7, "a", "abc", 3), (7, "b", "abc", 3), (7, "c", "zz", 44),
    ),
    (16, 40, 60, 4, 4),
)

# Two lots of places, {0, 1, 2, 3} and {4, 5}, without a way between them, and 6 alone.
APART = (
    ("house", "door", "book", "cross", "cross", "cross", "cross"),
    ((0, 1, 2), (0, 2, 2), (0, 3, 9), (1, 3, 2), (2, 3, 2), (4, 5, 3)),
    (("a", 0, 9),),
    ((0, "a", "abc", 9),),
    (2, 9, 9, 2, 2),
)

# Two doors, two houses and the book between them: whole runs are written down by it.
TOWN = (
    ("door", "book", "house", "house", "door"),
    ((0, 1, 1), (0, 2, 2), (0, 3, 3), (1, 4, 2), (2, 4, 1)),
    (("home", 2, 10), ("shop", 3, 99)),
    ((2, "news", "abc", 8), (2, "note", "", 4), (3, "news", "xyz", 99)),
    (2, 5, 12, 2, 2),
)

LONGEST_NUMBER = 10 ** 30 - 1


def nested(many, around):
    thing = 0
    for _ in range(many):
        thing = around(thing)
    return thing


# Things of every kind of which [2] speaks, to be handed in where something is told "of anything".
# None of the tuples here but () is right anywhere in a plan or a weather.
THINGS = [
    None, True, False, 0, 1, 2, -1, 16, LONGEST_NUMBER, -LONGEST_NUMBER,
    "", "a", "A", "-", "0", "house ", "abcde", "a\tb\n", "~" * 3000,
    [], [0], [None], ["house", "door", "book"], [[0, 1, 1]], [0] * 3000,
    (), (None,), (True,), (0, 0), ("",), ((),), ([],), ({},), ((), (), (), (), ()), (None,) * 5, (0,) * 3000,
    ([], {}), ({}, [], {}), (0, [], 1), ([0], [1], [2]), ((), {}, [], ()), ([], [], [], [], []),
    {}, {"a": 1}, {0: 0, 1: 1, 2: 2, 3: 3, 4: 4}, {(0, 1): [None]}, {None: {}}, {True: ()},
    {key: key for key in range(3000)},
    nested(10, lambda thing: [thing]), nested(10, lambda thing: (thing,)), nested(10, lambda thing: {"a": thing}),
    dict(enumerate(SMALL)), list(SMALL), list(GREAT),
]


def as_lists(thing):
    if isinstance(thing, tuple):
        return [as_lists(part) for part in thing]
    return thing


THINGS.append(as_lists(SMALL))


def paths_of(thing, path=()):
    """The ways by indexes to the thing itself and to all its parts, at each depth."""
    found = [path]
    if isinstance(thing, tuple):
        for at, part in enumerate(thing):
            found.extend(paths_of(part, path + (at,)))
    return found


def part_of(thing, path):
    for at in path:
        thing = thing[at]
    return thing


def put_in(thing, path, part):
    """The thing with another part at the path."""
    if not path:
        return part
    at = path[0]
    return thing[:at] + (put_in(thing[at], path[1:], part),) + thing[at + 1:]


def pairs_of(plan):
    """The two places of each road, so cuts of all roads."""
    return tuple([(one, other) for one, other, long in plan[1]])


def tried_cuts(plan):
    """Cuts of none, of each road, of all but each, of some lots of them, and of all."""
    pairs = pairs_of(plan)
    tried = {(), pairs, pairs[::2], pairs[1::2], pairs[::3], pairs[1::3], pairs[2::3], pairs[:4], pairs[-4:]}
    for at in range(len(pairs)):
        tried.add((pairs[at],))
        tried.add(pairs[:at] + pairs[at + 1:])
    return sorted(tried)


def all_ways(plan, one, other, cuts):
    """All ways from one place to the other, found by trying each step."""
    found = []
    begun = [(one,)]
    steps = [pair for pair in pairs_of(plan) if pair not in cuts]
    steps += [pair[::-1] for pair in steps]
    while begun:
        way = begun.pop()
        if way[-1] == other:
            found.append(way)
        else:
            begun.extend([way + (end,) for start, end in steps if start == way[-1] and end not in way])
    return found


def long_of(plan, way):
    longs = {(one, other): long for one, other, long in plan[1]}
    return sum([longs[min(step), max(step)] for step in zip(way, way[1:])])


# Kinds of which [2] doesn't speak: refused all the same where a refusal is told.
STRANGE_THINGS = [1.0, 0.5, b"a", {0}, frozenset(["a"]), range(2), len, object()]


def no_wholes(least, most=None):
    """Things that are no whole number from least on, and up to most where it is told."""
    beyond = [least - 1, least - 2, -LONGEST_NUMBER]
    if most is not None:
        beyond += [most + 1, most + 2, LONGEST_NUMBER]
    return beyond + [thing for thing in THINGS + STRANGE_THINGS if type(thing) is not int]


NO_MOMENTS = no_wholes(0)
NO_LETTERS = [thing for thing in THINGS + STRANGE_THINGS if thing not in ("", "a", "abcde")]
NO_LETTERS += ["a" * 17, "Abc", "abC", "a b", " a", "a ", "a\n", "a1", "a-", "a_", "`", "{", "\u00e4", "\u03b1", ("a",)]
NO_WORDS = NO_LETTERS + ["", "abcdefghi", ["a"], {"a": "a"}]


def error_of(call, *told, **named):
    """The class of the error by which the call is refused, None where it isn't."""
    try:
        call(*told, **named)
    except ValueError as error:
        return type(error)
    return None
