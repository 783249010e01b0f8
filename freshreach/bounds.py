"""Bounds: by when an ask ends whatever letters are lost, which losses break it, and where two plans part."""

from freshreach.errors import NoNumber
from freshreach.kinds import is_within
from freshreach.nets import Net, check_door, check_wish
from freshreach.plans import check_plan

MOST_PATIENCE = 40
MOST_LOST = 2


def latest(plan, door, name, page, *, age, patience, lost=1):
    """(moment, weather): the greatest moment at which the ask ends, and the first weather by which it does."""
    check_plan(plan)
    check_door(door, plan[0])
    check_case(name, page, age, patience, lost)
    answers = answers_by_weather(plan, (door, name, page, age, patience), lost)
    moment = last_moment(answers)
    return moment, [weather for weather, answer in answers.items() if answer[1] == moment][0]


def surely(plan, door, name, page, *, age, patience, lost=1):
    """("surely", moment) where it is read in each weather, else ("breaks", the first weather that breaks it)."""
    check_plan(plan)
    check_door(door, plan[0])
    check_case(name, page, age, patience, lost)
    answers = answers_by_weather(plan, (door, name, page, age, patience), lost)
    breaking = [weather for weather, answer in answers.items() if answer[0] == "broken"]
    if breaking:
        return "breaks", breaking[0]
    return "surely", last_moment(answers)


def first_parting(plan, other, door, name, page, *, age, patience, lost=1):
    """The first weather by which the ask's answers are unlike in nets of the two plans, None where there is none."""
    check_plan(plan)
    check_plan(other)
    check_door(door, plan[0])
    check_door(door, other[0])
    check_case(name, page, age, patience, lost)
    wish = (door, name, page, age, patience)
    answers = answers_by_weather(plan, wish, lost)
    others = answers_by_weather(other, wish, lost)
    weathers = list(answers) + [weather for weather in others if weather not in answers]
    for weather in sorted(weathers, key=fewest_first):
        one = answers[weather] if weather in answers else run(plan, wish, weather)[0]
        two = others[weather] if weather in others else run(other, wish, weather)[0]
        if one != two:
            return weather
    return None


def check_case(name, page, age, patience, lost):
    check_wish(name, page, age, patience, MOST_PATIENCE)
    if not is_within(lost, 0, MOST_LOST):
        raise NoNumber("how many letters are lost was not handed in")


def fewest_first(weather):
    return len(weather), weather


def last_moment(answers):
    return max([answer[1] for answer in answers.values()])


def answers_by_weather(plan, wish, lost):
    """weather: the ask's answer; those of fewer letters first, then the lesser ones.

    A letter that is sent once the ask has ended turns its answer no more: the weather without it has the same one
    and fewer letters, so weathers with such letters are left out.
    """
    answers = {}
    weathers = [()]
    for turn in range(lost + 1):
        longer = []
        for weather in weathers:
            answer, sent = run(plan, wish, weather)
            answers[weather] = answer
            least = weather[-1][0] + 1 if weather else 0
            longer += [(*weather, (number, ("lost",))) for number in range(least, sent)]
        weathers = longer
    return answers


def run(plan, wish, weather):
    """The ask's answer by the weather, and how many letters were sent up to the moment at which it ended."""
    door, name, page, age, patience = wish
    net = Net(plan, weather)
    net.ask(door, name, page, age=age, patience=patience)
    while net.answer(0) is None:
        net.on(1)
    return net.answer(0), len([row for row in net.log() if row[0] == "sent"])
