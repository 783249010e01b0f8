"""[111] a desk."""

import copy
import itertools
import unittest

from freshreach.desk import Desk
from freshreach.errors import (
    NoAsk, NoDoor, NoHouse, NoLine, NoName, NoNumber, NoPage, NoPlace, NoPlan, NoRoad, NoWeather, TooMany,
)
from freshreach.nets import Net
from tests.runs import chance_run, do
from tests.samples import STRANGE_THINGS, THINGS, TOWN, as_lists, error_of
from tests.test_texts import NO_NUMBERS, NO_PAGE_TEXTS, NO_WORDS

# A right line of each form, and the kinds of the words behind its first one.
FORMS = [
    ("ask 0 home news 8 40", "nwwnn"), ("write 2 news q", "nwt"), ("lead home 3", "wn"), ("cut 0 1", "nn"),
    ("mend 0 1", "nn"), ("bar 0 1", "nn"), ("free 0 1", "nn"), ("on 1", "n"), ("now", ""), ("answer 0", "n"),
    ("log", ""), ("open", ""),
]
WRONG = {"n": NO_NUMBERS + ["a b"], "w": NO_WORDS + ["a b"], "t": NO_PAGE_TEXTS + ["a b"]}


def asked_desk(weather=()):
    desk = Desk(TOWN, weather)
    desk.say("ask 0 home news 8 40")
    return desk


def no_lines():
    """What is none of the forms, each by one thing that is otherwise in a right line."""
    found = ["", " ", "  ", "-", "0", "ok", "what", "Now", "NOW", "now.", "twin", "door_rows 0", "\n", "now\nlog"]
    for line, kinds in FORMS:
        words = line.split(" ")
        found += [line + " ", " " + line, line + " 0", line + " a", line + "\n", line + "\t", line.upper(), "x" + line]
        found += [line.replace(" ", "  ", 1), line.replace(" ", "\t", 1)] if len(words) > 1 else []
        found += [" ".join(words[:many]) for many in range(1, len(words))]
        for place, kind in enumerate(kinds, start=1):
            found += [" ".join(words[:place] + [word] + words[place + 1:]) for word in WRONG[kind]]
    return found


class TestLines(unittest.TestCase):
    def say_all(self, desk, *lines):
        return [desk.say(line) for line in lines]

    def test_ask(self):
        desk = Desk(TOWN)
        for number in range(12):
            self.assertEqual(desk.say("ask 4 shop news 0 200"), str(number))
        self.assertEqual(desk.net.log()[0], ("ask", 0, 0, 4, "shop", "news", 0, 200))

    def test_write(self):
        desk = Desk(TOWN)
        told = self.say_all(desk, "write 2 news q", "write 2 news -", "write 2 news abcdefghijklmnop", "write 3 news a")
        self.assertEqual(told, ["2", "3", "4", "2"])
        texts = [row[5] for row in desk.net.log()]
        self.assertEqual(texts, ["q", "", "abcdefghijklmnop", "a"])

    def test_those_that_are_ok(self):
        desk = Desk(TOWN)
        lines = ("lead home 3", "cut 0 1", "mend 1 0", "bar 0 4", "free 4 0", "on 0", "on 3", "on 100")
        self.assertEqual(self.say_all(desk, *lines), ["ok"] * 8)
        rows = [("lead", 0, "home", 3), ("cut", 0, 0, 1), ("mend", 0, 0, 1), ("bar", 0, 0, 4), ("free", 0, 0, 4)]
        self.assertEqual(desk.net.log(), rows)
        self.assertEqual(desk.say("now"), "103")

    def test_now_and_log(self):
        desk = Desk(TOWN)
        self.assertEqual(self.say_all(desk, "now", "log"), ["0", "0"])
        self.assertEqual(self.say_all(desk, "ask 0 home news 8 40", "now", "log"), ["0", "0", "2"])
        self.assertEqual(self.say_all(desk, "on 10", "now", "log"), ["ok", "10", "14"])

    def test_answer(self):
        desk = Desk(TOWN)
        lines = ("ask 0 home news 8 40", "ask 0 away news 8 40", "ask 4 home aa 8 40", "ask 4 home note 8 7")
        self.say_all(desk, *lines)
        self.assertEqual([desk.say(f"answer {ask}") for ask in range(4)], ["open"] * 4)
        desk.say("on 5")
        self.assertEqual([desk.say(f"answer {ask}") for ask in range(4)], ["open", "broken 2 no name", "open", "open"])
        desk.say("on 5")
        told = ["read 10 2 1 abc", "broken 2 no name", "broken 6 no page", "read 6 2 1 -"]
        self.assertEqual([desk.say(f"answer {ask}") for ask in range(4)], told)

    def test_late(self):
        desk = Desk(TOWN, ((0, ("lost",)),))
        self.assertEqual(self.say_all(desk, "ask 0 home news 8 5", "on 9", "answer 0"), ["0", "ok", "broken 5 late"])

    def test_open(self):
        desk = Desk(TOWN)
        self.assertEqual(desk.say("open"), "-")
        self.say_all(desk, "ask 0 home news 8 40", "ask 0 away news 8 40", "ask 4 home aa 8 40")
        told = []
        for _ in range(12):
            told.append(desk.say("open"))
            desk.say("on 1")
        self.assertEqual(told, ["0 1 2"] * 2 + ["0 2"] * 4 + ["0"] * 4 + ["-"] * 2)

    def test_as_the_net(self):
        for seed in range(60):
            plan, weather, deeds = chance_run(seed)
            desk, net = Desk(plan, weather), Net(plan, weather)
            for deed in deeds:
                told = do(net, deed)
                line = " ".join([str(word) if word != "" else "-" for word in deed])
                self.assertEqual(desk.say(line), "ok" if told is None else str(told), line)
            self.assertEqual(desk.net, net)
            self.assertEqual((desk.say("now"), desk.say("log")), (str(net.now()), str(len(net.log()))))
            asks = [row[2] for row in net.log() if row[0] == "ask"]
            left = " ".join([str(ask) for ask in asks if net.answer(ask) is None])
            self.assertEqual(desk.say("open"), left or "-")
            for ask in asks:
                told = net.answer(ask) or ("open",)
                words = told[:4] + (told[4] or "-",) if told[0] == "read" else told
                self.assertEqual(desk.say(f"answer {ask}"), " ".join([str(word) for word in words]))


class TestRefusals(unittest.TestCase):
    def test_no_line(self):
        desk = asked_desk()
        for line in no_lines():
            self.assertIs(error_of(desk.say, line), NoLine, repr(line))

    def test_the_right_lines_are_some(self):
        for line, kinds in FORMS:
            self.assertIs(error_of(asked_desk().say, line), None, line)

    def test_of_anything(self):
        desk = asked_desk()
        for thing in THINGS + STRANGE_THINGS + [["now"], ("now",), {"now": 0}, b"now", ["write", 2, "news", "q"]]:
            self.assertIs(error_of(desk.say, thing), NoLine, repr(thing)[:300])

    def test_no_line_ahead_of_all_else(self):
        desk = asked_desk()
        for line in ("ask 9 home news 8 999999999999", "ask 1 Home news 8 40", "write 0 news Q", "on 1234567890"):
            self.assertIs(error_of(desk.say, line), NoLine, line)

    def test_as_the_net_refuses(self):
        desk = asked_desk()
        for line, error in (
            ("ask 1 home news 8 40", NoDoor), ("ask 999999999 home news 8 40", NoDoor),
            ("ask 0 home news 100 40", NoNumber), ("ask 0 home news 8 0", NoNumber),
            ("ask 0 home news 8 201", NoNumber),
            ("write 0 news q", NoHouse), ("write 2 aa q", NoPage), ("lead aa 2", NoName), ("lead home 0", NoHouse),
            ("cut 0 5", NoPlace), ("cut 0 4", NoRoad), ("mend 5 0", NoPlace), ("mend 3 4", NoRoad),
            ("bar 0 0", NoPlace), ("bar 0 8", NoPlace), ("free 1 1", NoPlace), ("free 8 1", NoPlace),
            ("on 101", NoNumber), ("on 999999999", NoNumber), ("answer 1", NoAsk), ("answer 999999999", NoAsk),
        ):
            self.assertIs(error_of(desk.say, line), error, line)

    def test_too_many(self):
        desk = Desk(TOWN)
        for _ in range(12):
            desk.say("ask 0 home news 8 40")
        with self.assertRaises(TooMany) as caught:
            desk.say("ask 0 home news 8 40")
        self.assertEqual((caught.exception.many, caught.exception.most), (13, 12))
        for _ in range(4):
            desk.say("on 100")
        with self.assertRaises(TooMany) as caught:
            desk.say("on 1")
        self.assertEqual((caught.exception.many, caught.exception.most), (401, 400))

    def test_what_is_refused_changes_nothing(self):
        desk, other = asked_desk(), asked_desk()
        refused = ["ask 1 home news 8 40", "write 0 news q", "lead home 0", "cut 0 4", "bar 0 0", "on 101", "answer 1"]
        for line in refused + no_lines():
            self.assertIsNotNone(error_of(desk.say, line))
        self.assertEqual(desk.net, other.net)
        for each in (desk, other):
            each.say("on 40")
        self.assertEqual(desk.net.log(), other.net.log())

    def test_made(self):
        for thing in THINGS + STRANGE_THINGS + [list(TOWN), as_lists(TOWN)]:
            self.assertIs(error_of(Desk, thing), NoPlan, repr(thing)[:300])
            self.assertIs(error_of(Desk, thing, None), NoPlan, repr(thing)[:300])
            if thing != ():
                self.assertIs(error_of(Desk, TOWN, thing), NoWeather, repr(thing)[:300])


class TestArguments(unittest.TestCase):
    def test_by_their_names(self):
        desk = Desk(weather=((0, ("lost",)),), plan=TOWN)
        self.assertEqual(desk.say(line="ask 0 home news 8 40"), "0")
        self.assertEqual(desk.say("log"), "3")
        self.assertEqual(Desk(TOWN).say("log"), "0")

    def test_texts_are_told(self):
        desk = asked_desk()
        for line, kinds in FORMS:
            self.assertIs(type(desk.say(line)), str)

    def test_asked_again(self):
        desk = asked_desk()
        for moments, line in itertools.product(range(3), ("now", "answer 0", "log", "open")):
            desk.say(f"on {moments}")
            self.assertEqual(desk.say(line), desk.say(line))

    def test_two_desks_have_nothing_in_common(self):
        one, other = Desk(TOWN), Desk(TOWN)
        for line, kinds in FORMS[:8]:
            one.say(line)
        self.assertEqual([other.say(line) for line in ("now", "log", "open")], ["0", "0", "-"])
        self.assertIs(error_of(other.say, "answer 0"), NoAsk)

    def test_what_is_handed_in_is_not_changed(self):
        for thing in THINGS:
            kept = copy.deepcopy(thing)
            error_of(Desk, thing)
            error_of(Desk, TOWN, thing)
            error_of(Desk(TOWN).say, thing)
            self.assertEqual(repr(thing), repr(kept))

    def test_methods_stand_in_the_class_itself(self):
        self.assertIn("say", vars(Desk))


if __name__ == "__main__":
    unittest.main()
