"""Papers: the rows of a log by which an answer is shown to be due; and what the log alone tells of any moment."""

from freshreach.errors import NoAsk, NoHouse, NoLog, NoName, NoPage, NoPlace
from freshreach.kinds import check_moment, is_from, is_tuple, is_within
from freshreach.letters import pair_of
from freshreach.plans import check_plan, is_house

# The rows of a log that are looked at here, part by part:
#   ("ask", now, ask, door, name, page, age, patience)
#   ("sent", now, letter, from, to, body)
#   ("read", now, ask, house, version, text, named, at)
#   ("broken", now, ask, why)


def is_paper(plan, log, ask, thing):
    """Whether it is a paper of the ask, of anything."""
    check_story(plan, log)
    check_ask(ask)
    begun, end = begin_of(log, ask), end_of(log, ask)
    if end is None:
        return False
    if is_tuple(thing, 4, 4) and thing[0] == "read":
        return is_read_paper(log, log[begun], end, thing)
    if is_tuple(thing, 2, 2) and thing[0] == "late":
        return is_late_paper(log, begun, end, thing)
    if is_tuple(thing, 2, 2) and thing[0] == "none":
        return is_none_paper(log, log[begun], end, thing)
    return False


def paper_of(plan, log, ask):
    """Some paper of the ask, None where it hasn't ended, or isn't there."""
    check_story(plan, log)
    check_ask(ask)
    begun, end = begin_of(log, ask), end_of(log, ask)
    if end is None:
        return None
    if log[end][0] == "read":
        return read_paper(log, log[begun], end)
    if log[end][3] == "late":
        return "late", begun
    return "none", [at for at in range(end) if shows_none(log[at], log[begun], log[end])][0]


def stood(plan, log, house, page, moment):
    """(version, text) of the page behind all that was done up to the moment."""
    check_story(plan, log)
    if not is_house(house, plan[0]):
        raise NoHouse("no house of the plan was handed in")
    texts = [text for place, name, text, age in plan[3] if (place, name) == (house, page)]
    if not texts:
        raise NoPage("no page of the house was handed in")
    check_moment(moment, 0)
    told = [(1, texts[0])]
    told += [row[4:] for row in rows_until(log, ("write",), moment) if row[2:4] == (house, page)]
    return told[-1]


def led(plan, log, name, moment):
    """To which house the name led behind all that was done up to the moment."""
    check_story(plan, log)
    houses = [house for word, house, age in plan[2] if word == name]
    if not houses:
        raise NoName("no name of the plan was handed in")
    check_moment(moment, 0)
    houses += [row[3] for row in rows_until(log, ("lead",), moment) if row[2] == name]
    return houses[-1]


def barred(plan, log, one, other, moment):
    """Whether a rule barred the two places behind all that was done up to the moment."""
    check_story(plan, log)
    for place in (one, other):
        if not is_within(place, 0, len(plan[0]) - 1):
            raise NoPlace("no place of the plan was handed in")
    check_moment(moment, 0)
    pair = pair_of(one, other)
    rules = [row[0] for row in rows_until(log, ("bar", "free"), moment) if row[2:] == pair]
    return rules[-1:] == ["bar"]


def check_story(plan, log):
    check_plan(plan)
    if not isinstance(log, list) or not all([is_row(row) for row in log]):
        raise NoLog("no log was handed in")


def check_ask(ask):
    if not is_from(ask, 0):
        raise NoAsk("no number of an ask was handed in")


def is_row(thing):
    return isinstance(thing, tuple) and len(thing) >= 2 and isinstance(thing[0], str) and is_from(thing[1], 0)


def rows_until(log, words, moment):
    return [row for row in log if row[0] in words and row[1] <= moment]


def begin_of(log, ask):
    """The number of the ask's row ("ask", ..), None where there is none."""
    return number_of(log, ("ask",), ask)


def end_of(log, ask):
    """The number of the ask's row ("read", ..) or ("broken", ..), None where there is none."""
    return number_of(log, ("read", "broken"), ask)


def number_of(log, words, ask):
    for at, row in enumerate(log):
        if row[0] in words and row[2] == ask:
            return at
    return None


def is_read_paper(log, asked, end, thing):
    word, told, pieces, same = thing
    read = log[end]
    if read[0] != "read" or not isinstance(pieces, tuple):
        return False
    numbers = [told, *pieces] if same is None else [told, *pieces, same]
    if not pieces or not all([is_within(number, 0, end - 1) for number in numbers]):
        return False
    shown = [log[number] for number in pieces]
    if not shows_name(log[told], asked, read) or not are_pieces(shown, asked, read):
        return False
    if same is None:
        return is_fresh(shown, asked, read)
    return shows_same(log[same], asked, read) and is_fresh([log[same]], asked, read)


def is_late_paper(log, begun, end, thing):
    asked, broken = log[begun], log[end]
    if broken[0] != "broken" or broken[3] != "late" or broken[1] != asked[1] + asked[7]:
        return False
    return is_within(thing[1], begun, begun)


def is_none_paper(log, asked, end, thing):
    return is_within(thing[1], 0, end - 1) and shows_none(log[thing[1]], asked, log[end])


def is_sent(row, word):
    return row[0] == "sent" and row[5][0] == word


def shows_name(row, asked, read):
    """Whether the book tells by the row that the name leads to the house read of, good when it was read."""
    if not is_sent(row, "named"):
        return False
    word, number, mark, name, house, age, moment = row[5]
    return (name, house, moment) == (asked[4], read[3], read[6]) and read[1] - moment <= age


def shows_piece(row, asked, read):
    """Whether the house read of tells by the row a piece of the version read."""
    # Questions begin with the same words as answers: who sends tells them apart.
    return is_sent(row, "piece") and row[3] == read[3] and row[5][3:5] == (asked[5], read[4])


def shows_same(row, asked, read):
    """Whether the house read of tells by the row that the version read is still the page's."""
    return is_sent(row, "same") and row[3] == read[3] and row[5][3:5] == (asked[5], read[4])


def shows_none(row, asked, end):
    """Whether the row tells that there is no such name, or no such page, and the ask is broken by that."""
    if end[0] != "broken":
        return False
    if end[3] == "no name":
        return is_sent(row, "unnamed") and row[5][3] == asked[4]
    return end[3] == "no page" and is_sent(row, "none") and row[5][3] == asked[5]


def are_pieces(rows, asked, read):
    """Whether the rows tell all pieces of the version read, in order."""
    if not all([shows_piece(row, asked, read) for row in rows]):
        return False
    places = [row[5][5:7] for row in rows]
    return places == [(len(rows), k) for k in range(len(rows))] and "".join([row[5][7] for row in rows]) == read[5]


def is_fresh(rows, asked, read):
    """Whether the least moment of these answers is the one told, and was not too long ago when it was read."""
    # Both kinds of answers end with the page's age and their moment.
    age, at = rows[-1][5][-2], min([row[5][-1] for row in rows])
    return at == read[7] and read[1] - at <= min(age, asked[6])


def read_paper(log, asked, end):
    read = log[end]
    told = [at for at in range(end) if shows_name(log[at], asked, read)][0]
    pieces = [at for at in range(end) if shows_piece(log[at], asked, read)]
    # The entry is as fresh as its pieces, or as the answer that it is still the same.
    fresh = first_pieces([at for at in pieces if log[at][1] >= read[7]], log)
    if is_read_paper(log, asked, end, ("read", told, fresh, None)):
        return "read", told, fresh, None
    same = [at for at in range(end) if shows_same(log[at], asked, read) and log[at][1] == read[7]][0]
    return "read", told, first_pieces(pieces, log), same


def first_pieces(numbers, log):
    """Of each piece the first one of these rows, in the order of the pieces."""
    firsts = {}
    for number in numbers:
        firsts.setdefault(log[number][5][6], number)
    return tuple([firsts[k] for k in sorted(firsts)])
