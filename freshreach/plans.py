"""Plans and weathers: what a net is made of."""

from freshreach.errors import NoPlan, NoWeather
from freshreach.kinds import is_letters, is_tuple, is_within, is_word, rises

ROLES = ("house", "door", "book", "cross")


def is_plan(thing):
    """Whether it is a plan, of anything."""
    if not is_tuple(thing, 5, 5):
        return False
    roles, roads, names, pages, bounds = thing
    return (
        are_roles(roles)
        and are_roads(roads, len(roles))
        and are_names(names, roles)
        and are_pages(pages, roles)
        and are_bounds(bounds)
    )


def is_weather(thing):
    """Whether it is a weather, of anything."""
    return (
        is_tuple(thing, 0, 6)
        and all([is_weather_row(row) for row in thing])
        and rises([row[0] for row in thing])
    )


def check_plan(plan):
    if not is_plan(plan):
        raise NoPlan("no plan was handed in")


def check_weather(weather):
    if not is_weather(weather):
        raise NoWeather("no weather was handed in")


def are_roles(thing):
    if not is_tuple(thing, 3, 8) or not all([role in ROLES for role in thing]):
        return False
    return thing.count("book") == 1 and "house" in thing and "door" in thing


# Rows that rise and are unlike in their first parts are just those whose first parts rise:
# so roads, names, pages and weathers are compared by these parts alone.


def are_roads(thing, many):
    return (
        is_tuple(thing, 0, 14)
        and all([is_road(road, many) for road in thing])
        and rises([road[:2] for road in thing])
    )


def are_names(thing, roles):
    return (
        is_tuple(thing, 1, 4)
        and all([is_name_row(row, roles) for row in thing])
        and rises([row[0] for row in thing])
    )


def are_pages(thing, roles):
    return (
        is_tuple(thing, 1, 8)
        and all([is_page_row(row, roles) for row in thing])
        and rises([row[:2] for row in thing])
    )


def is_road(thing, many):
    if not is_tuple(thing, 3, 3):
        return False
    one, other, long = thing
    return (
        is_within(one, 0, many - 1)
        and is_within(other, 0, many - 1)
        and one < other
        and is_within(long, 1, 9)
    )


def is_name_row(thing, roles):
    if not is_tuple(thing, 3, 3):
        return False
    name, house, age = thing
    return is_word(name) and is_house(house, roles) and is_age(age)


def is_page_row(thing, roles):
    return is_tuple(thing, 4, 4) and is_house(thing[0], roles) and is_own_page(thing[1:])


def is_own_page(thing):
    """Whether it is a page as its house has it: (page, text, age)."""
    if not is_tuple(thing, 3, 3):
        return False
    page, text, age = thing
    return is_word(page) and is_page_text(text) and is_age(age)


def are_bounds(thing):
    if not is_tuple(thing, 5, 5):
        return False
    size, wait, rest, numbers, room = thing
    return (
        is_size(size)
        and is_within(wait, 1, 40)
        and is_rest(rest)
        and are_numbers(numbers)
        and is_room(room)
    )


def is_house(thing, roles):
    return has_role(thing, roles, "house")


def is_door(thing, roles):
    return has_role(thing, roles, "door")


def has_role(thing, roles, role):
    return is_within(thing, 0, len(roles) - 1) and roles[thing] == role


def is_age(thing):
    return is_within(thing, 0, 99)


def is_page_text(thing):
    return is_letters(thing, 0, 16)


def is_size(thing):
    return is_within(thing, 1, 4) or is_within(thing, 16, 16)


def is_rest(thing):
    return is_within(thing, 1, 60)


def are_numbers(thing):
    """Whether it is how many numbers a door may give."""
    return is_within(thing, 1, 4)


def is_room(thing):
    """Whether it is how many entries a near keep may keep."""
    return is_within(thing, 1, 4)


def is_weather_row(thing):
    return is_tuple(thing, 2, 2) and is_within(thing[0], 0, 400) and is_fate(thing[1])


def is_fate(thing):
    if thing == ("lost",):
        return True
    if not is_tuple(thing, 2, 2):
        return False
    word, moments = thing
    if word == "late":
        return is_within(moments, 1, 60)
    return word == "twice" and is_within(moments, 0, 60)
