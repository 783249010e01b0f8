"""Texts: plans and weathers written in rows, and read back."""

from freshreach.errors import NoText
from freshreach.kinds import is_letters, is_word
from freshreach.plans import ROLES, check_plan, check_weather, is_plan, is_weather

# Each form is the first word of a row, then the kinds of the words behind it.
PLAN_FORMS = (
    ("bounds", "number", "number", "number", "number", "number"),
    ("place", "role"),
    ("road", "number", "number", "number"),
    ("name", "word", "number", "number"),
    ("page", "number", "word", "number", "text"),
)
WEATHER_FORMS = (("lost", "number"), ("late", "number", "number"), ("twice", "number", "number"))


def plan_text(plan):
    """The plan, written in rows."""
    check_plan(plan)
    roles, roads, names, pages, bounds = plan
    rows = [row_of("bounds", bounds)]
    rows += [row_of("place", (role,)) for role in roles]
    rows += [row_of("road", road) for road in roads]
    rows += [row_of("name", name) for name in names]
    rows += [row_of("page", (house, page, age, text_word(text))) for house, page, text, age in pages]
    return "\n".join(rows)


def weather_text(weather):
    """The weather, written in rows."""
    check_weather(weather)
    return "\n".join([row_of(fate[0], (number, *fate[1:])) for number, fate in weather])


def read_plan(text):
    """The plan that is so written."""
    check_text(text)
    rows = text.split("\n")
    found = {form[0]: [] for form in PLAN_FORMS}
    stage = 0
    for number, row in enumerate(rows, start=1):
        word, values = read_row(row, PLAN_FORMS, number)
        place = list(found).index(word)
        # The bounds are the first row, and no other one.
        if place < stage or (place == 0) != (number == 1):
            raise NoText(number)
        stage = place
        found[word].append(values)
    plan = plan_of(found)
    if not is_plan(plan):
        raise NoText(len(rows) + 1)
    return plan


def read_weather(text):
    """The weather that is so written."""
    check_text(text)
    rows = text.split("\n") if text else []
    weather = []
    for number, row in enumerate(rows, start=1):
        word, values = read_row(row, WEATHER_FORMS, number)
        weather.append((values[0], (word, *values[1:])))
    if not is_weather(tuple(weather)):
        raise NoText(len(rows) + 1)
    return tuple(weather)


def row_of(word, parts):
    return " ".join([word] + [str(part) for part in parts])


def text_word(text):
    """The text of a page as one word, which a text without signs isn't."""
    return text if text else "-"


def check_text(text):
    if not isinstance(text, str):
        raise NoText(0)


def read_row(row, forms, number):
    """(word, values) of the row with this number; refused where it is of none of the forms."""
    found = read_words(row, forms)
    if found is None:
        raise NoText(number)
    return found


def read_words(line, forms):
    """(word, values) of a line of one of the forms, None where it is of none."""
    word, *parts = line.split(" ")
    for own, *kinds in forms:
        if word == own and are_of_kinds(parts, kinds):
            return word, tuple([value_of(part, kind) for part, kind in zip(parts, kinds)])
    return None


def are_of_kinds(parts, kinds):
    return len(parts) == len(kinds) and all([is_of_kind(part, kind) for part, kind in zip(parts, kinds)])


def is_of_kind(part, kind):
    if kind == "number":
        return is_number(part)
    if kind == "role":
        return part in ROLES
    if kind == "word":
        return is_word(part)
    return part == "-" or is_letters(part, 1, 16)


def is_number(part):
    """Whether it is a whole number in at most nine figures, without a nought ahead but in 0."""
    if not 1 <= len(part) <= 9 or not all(["0" <= sign <= "9" for sign in part]):
        return False
    return part == "0" or part[0] != "0"


def value_of(part, kind):
    if kind == "number":
        return int(part)
    return "" if part == "-" else part


def plan_of(found):
    """What the rows tell, in the order of a plan's parts."""
    return (
        tuple([values[0] for values in found["place"]]),
        tuple(found["road"]),
        tuple(found["name"]),
        tuple([(house, page, text, age) for house, page, age, text in found["page"]]),
        found["bounds"][0],
    )
