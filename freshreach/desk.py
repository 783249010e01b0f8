"""A desk: a net that is told lines and answers by texts."""

from freshreach.errors import NoLine
from freshreach.nets import Net
from freshreach.texts import read_words, row_of, text_word


def say_ask(net, told):
    door, name, page, age, patience = told
    return str(net.ask(door, name, page, age=age, patience=patience))


def say_write(net, told):
    return str(net.write(*told))


def say_lead(net, told):
    net.lead(*told)
    return "ok"


def say_cut(net, told):
    net.cut(*told)
    return "ok"


def say_mend(net, told):
    net.mend(*told)
    return "ok"


def say_bar(net, told):
    net.bar(*told)
    return "ok"


def say_free(net, told):
    net.free(*told)
    return "ok"


def say_on(net, told):
    net.on(*told)
    return "ok"


def say_now(net, told):
    return str(net.now())


def say_answer(net, told):
    ending = net.answer(*told)
    if ending is None:
        return "open"
    if ending[0] == "broken":
        return row_of("broken", ending[1:])
    word, moment, house, version, text, named, at = ending
    return row_of(word, (moment, house, version, text_word(text)))


def say_log(net, told):
    return str(len(net.log()))


def say_open(net, told):
    numbers = [str(number) for number in net.unended()]
    return " ".join(numbers) if numbers else "-"


# Each form is the first word of a line, then the kinds of the words behind it.
LINE_FORMS = (
    ("ask", "number", "word", "word", "number", "number"),
    ("write", "number", "word", "text"),
    ("lead", "word", "number"),
    ("cut", "number", "number"),
    ("mend", "number", "number"),
    ("bar", "number", "number"),
    ("free", "number", "number"),
    ("on", "number"),
    ("now",),
    ("answer", "number"),
    ("log",),
    ("open",),
)

SAYINGS = {
    "ask": say_ask,
    "write": say_write,
    "lead": say_lead,
    "cut": say_cut,
    "mend": say_mend,
    "bar": say_bar,
    "free": say_free,
    "on": say_on,
    "now": say_now,
    "answer": say_answer,
    "log": say_log,
    "open": say_open,
}


class Desk:
    """Keeps a net, and does to it what the lines say."""

    def __init__(self, plan, weather=()):
        self.net = Net(plan, weather)

    def say(self, line):
        """What is told behind the line; refused where it is none, of anything, or as the net refuses."""
        found = read_words(line, LINE_FORMS) if isinstance(line, str) else None
        if found is None:
            raise NoLine("none of the lines was said")
        word, told = found
        saying = SAYINGS[word]
        return saying(self.net, told)
