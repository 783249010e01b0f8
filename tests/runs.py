"""Plans, weathers and deeds by chance, the same ones for the same seed, and how deeds are done to a net."""

import random

from freshreach.plans import is_plan

NAMES = "abc"
PAGES = "pqr"
AGES = (0, 5, 15, 40, 99, 99)


def chance_text(chance):
    return "".join([chance.choice("xyz") for _ in range(chance.choice((0, 1, 2, 3, 4, 8, 16)))])


def chance_roads(chance, many):
    pairs = [(one, other) for one in range(many) for other in range(one + 1, many)]
    taken = chance.sample(pairs, min(len(pairs), chance.randint(many, 14)))
    longest = chance.choice((1, 2, 2, 9))
    return tuple(sorted([(one, other, chance.randint(1, longest)) for one, other in taken]))


def chance_plan(chance):
    """A plan in which a good deal can be read."""
    while True:
        many = chance.randint(3, 8)
        roles = tuple(chance.choices(("house", "door", "book", "cross"), weights=(4, 4, 1, 1), k=many))
        houses = [place for place, role in enumerate(roles) if role == "house"]
        if not houses:
            continue
        named = NAMES[:chance.randint(1, 3)]
        names = [(name, chance.choice(houses), chance.choice(AGES)) for name in named]
        held = sorted({(chance.choice(houses), chance.choice(PAGES)) for _ in range(12)})[:8]
        pages = [(house, page, chance_text(chance), chance.choice(AGES)) for house, page in held]
        bounds = (chance.choice((1, 2, 3, 4, 16)), chance.choice((1, 4, 8, 15, 40)), chance.choice((1, 8, 20, 60)))
        bounds += (chance.randint(1, 4), chance.randint(1, 4))
        plan = (roles, chance_roads(chance, many), tuple(names), tuple(pages), bounds)
        if is_plan(plan):
            return plan


def chance_weather(chance):
    numbers = sorted(chance.sample(range(chance.choice((8, 20, 60))), chance.randint(0, 6)))
    fates = (("lost",), ("late", chance.randint(1, 30)), ("twice", chance.choice((0, 1, 2, 30))))
    return tuple([(number, chance.choice(fates)) for number in numbers])


def places_of(plan, role):
    return [place for place, other in enumerate(plan[0]) if other == role]


def chance_deed(chance, plan):
    word = chance.choice(("ask", "ask", "write", "lead", "pair", "on", "on", "on"))
    if word == "ask":
        name = chance.choice([row[0] for row in plan[2]] * 3 + ["c"])
        told = (chance.choice(places_of(plan, "door")), name, chance.choice(PAGES))
        return "ask", *told, chance.choice(AGES), chance.choice((1, 20, 50, 100, 200))
    if word == "write":
        return "write", *chance.choice(plan[3])[:2], chance_text(chance)
    if word == "lead":
        return "lead", chance.choice(plan[2])[0], chance.choice(places_of(plan, "house"))
    if word == "on":
        return "on", chance.choice((0, 1, 2, 5, 12, 30))
    if plan[1] and chance.random() < 0.5:
        return chance.choice(("cut", "mend", "mend")), *chance.choice(plan[1])[:2][::chance.choice((1, -1))]
    return chance.choice(("bar", "free", "free")), *chance.sample(range(len(plan[0])), 2)


def chance_run(seed):
    """A plan, a weather and a list of deeds that a net doesn't refuse."""
    chance = random.Random(seed)
    plan, weather = chance_plan(chance), chance_weather(chance)
    deeds, asks, now = [], 0, 0
    for _ in range(chance.randint(10, 40)):
        deed = chance_deed(chance, plan)
        asks += deed[0] == "ask"
        now += deed[1] if deed[0] == "on" else 0
        if asks <= 12 and now <= 400:
            deeds.append(deed)
        asks = min(asks, 12)
        now = min(now, 400)
    return plan, weather, deeds


def do(net, deed):
    word, *told = deed
    if word == "ask":
        return net.ask(*told[:3], age=told[3], patience=told[4])
    return getattr(net, word)(*told)


def do_all(net, deeds):
    for deed in deeds:
        do(net, deed)
    return net
