"""[80], [84]: what a net is made of, its deeds, what it tells, and what it refuses."""

import copy
import itertools
import unittest

from freshreach.errors import (
    NoAsk, NoDoor, NoHouse, NoName, NoNumber, NoPage, NoPlace, NoPlan, NoRoad, NoText, NoWeather, TooMany,
)
from freshreach.nets import Net
from tests.runs import do_all
from tests.samples import (
    APART, GREAT, NO_LETTERS, NO_WORDS, SMALL, STRANGE_THINGS, THINGS, TOWN, as_lists, error_of, no_wholes, put_in,
)

LOSSES = ((0, ("lost",)), (3, ("late", 60)), (400, ("twice", 0)))
NO_PLANS = THINGS + STRANGE_THINGS + [
    SMALL[:4], SMALL + ((),), list(TOWN), as_lists(TOWN), put_in(TOWN, (0, 1), "cross"), put_in(TOWN, (4, 0), 5),
    put_in(TOWN, (1, 0, 2), 10), put_in(TOWN, (1, 0, 2), True), put_in(TOWN, (2, 0, 1), 0), put_in(TOWN, (3, 0, 0), 1),
]
NO_WEATHERS = [thing for thing in THINGS + STRANGE_THINGS if thing != ()] + [
    LOSSES[::-1], list(LOSSES), as_lists(LOSSES), ((0, ("lost",)), (0, ("lost",))), ((401, ("lost",)),),
    ((0, ("late", 0)),), ((0, ("late", 61)),), ((0, ("twice", 61)),), ((0, ("gone",)),), ((True, ("lost",)),),
    tuple([(number, ("lost",)) for number in range(7)]),
]
NO_PLACES_OF_TOWN = no_wholes(0, 4)
NO_DOORS_OF_TOWN = NO_PLACES_OF_TOWN + [1, 2, 3]
NO_HOUSES_OF_TOWN = NO_PLACES_OF_TOWN + [0, 1, 4]


def busy_net():
    """A net in which a good deal is on its way."""
    net = Net(TOWN, ((2, ("twice", 4)), (5, ("lost",))))
    deeds = [
        ("ask", 0, "home", "news", 8, 40), ("ask", 4, "shop", "news", 99, 90), ("on", 5), ("write", 2, "news", "q"),
        ("lead", "shop", 2), ("cut", 0, 3), ("bar", 1, 4), ("on", 2), ("ask", 0, "home", "note", 3, 7), ("on", 1),
    ]
    return do_all(net, deeds)


def told_by(net):
    """All that a net tells."""
    doors = [place for place, role in enumerate(net.plan[0]) if role == "door"]
    rows = [(net.door_rows(door), net.name_rows(door), net.keep_rows(door)) for door in doors]
    asks = [row[2] for row in net.log() if row[0] == "ask"]
    return net.now(), net.log(), rows, [net.answer(ask) for ask in asks]


class TestMade(unittest.TestCase):
    def test_at_first(self):
        for plan in (SMALL, APART, GREAT, TOWN):
            for weather in ((), LOSSES):
                net = Net(plan, weather)
                self.assertEqual(net.now(), 0)
                self.assertEqual(net.log(), [])
                for door in [place for place, role in enumerate(plan[0]) if role == "door"]:
                    self.assertEqual((net.door_rows(door), net.name_rows(door), net.keep_rows(door)), ((), (), ()))

    def test_no_plan(self):
        for plan in NO_PLANS:
            self.assertIs(error_of(Net, plan), NoPlan, repr(plan)[:300])
            self.assertIs(error_of(Net, plan, LOSSES), NoPlan, repr(plan)[:300])
            self.assertIs(error_of(Net, plan, None), NoPlan, repr(plan)[:300])

    def test_no_weather(self):
        for weather in NO_WEATHERS:
            self.assertIs(error_of(Net, TOWN, weather), NoWeather, repr(weather)[:300])
            self.assertIs(error_of(Net, plan=TOWN, weather=weather), NoWeather, repr(weather)[:300])

    def test_by_names_and_by_places(self):
        self.assertEqual(Net(TOWN, LOSSES), Net(weather=LOSSES, plan=TOWN))
        self.assertEqual(Net(TOWN), Net(plan=TOWN, weather=()))
        self.assertEqual(Net(TOWN).weather, ())

    def test_within_each_door_are_the_bounds_of_the_plan(self):
        for rest, numbers in ((2, 1), (3, 2), (9, 3), (30, 4)):
            net = Net(TOWN[:4] + ((16, 40, rest, numbers, 1),))
            for ask in range(5):
                net.ask(0, "shop", "abcde"[ask], age=1, patience=200)
            self.assertEqual(len(net.door_rows(0)), min(5, numbers))
            self.assertEqual([row[0] for row in net.log()].count("full"), 5 - min(5, numbers))
            # Each holds its number till rest moments behind the moment 2, at which it was last told.
            net.on(2)
            net.bar(0, 3)
            net.on(rest)
            self.assertEqual(len(net.door_rows(0)), min(5, numbers))
            net.on(1)
            self.assertEqual(net.door_rows(0), ())

    def test_the_keep_of_a_door_has_its_room(self):
        pages = tuple([(0, page, page, 99) for page in "abcde"])
        for room in (1, 2, 3, 4):
            plan = (("house", "door", "book"), SMALL[1], (("a", 0, 99),), pages, (1, 40, 2, 4, room))
            net = Net(plan)
            for turn, page in enumerate("abcde"):
                net.ask(1, "a", page, age=99, patience=9)
                net.on(4)
                kept = ["abcde"[at] for at in range(max(0, turn + 1 - room), turn + 1)]
                self.assertEqual([key for key, entry, used in net.keep_rows(1)], [(0, page) for page in kept])


class TestAsk(unittest.TestCase):
    def test_numbers_from_nought(self):
        net = Net(TOWN)
        for number in range(12):
            self.assertEqual(net.ask(4 * (number % 2), "home", "news", age=8, patience=40), number)
            net.on(number)
        self.assertEqual([row[2] for row in net.log() if row[0] == "ask"], list(range(12)))

    def test_its_row_comes_first(self):
        net = Net(TOWN)
        net.on(3)
        net.ask(4, "shop", "note", age=7, patience=31)
        self.assertEqual(net.log()[0], ("ask", 3, 0, 4, "shop", "note", 7, 31))
        self.assertEqual(net.log()[1], ("sent", 3, 0, 4, 1, ("who", 0, (0, 1), "shop")))
        self.assertEqual(len(net.log()), 2)

    def test_bounds(self):
        for age, patience in itertools.product((0, 1, 99), (1, 2, 200)):
            net = Net(TOWN)
            net.bar(0, 1)
            self.assertEqual(net.ask(0, "home", "news", age=age, patience=patience), 0)
            do_all(net, [("on", 100)] * (patience // 100) + [("on", patience % 100)])
            self.assertEqual(net.answer(0), ("broken", patience, "late"))

    def test_words_that_the_plan_has_not(self):
        net = Net(TOWN)
        net.ask(0, "zzzzzzzz", "zzzzzzzz", age=8, patience=40)
        net.ask(0, "home", "zzzzzzzz", age=8, patience=40)
        net.on(9)
        self.assertEqual(net.answer(0), ("broken", 2, "no name"))
        self.assertEqual(net.answer(1), ("broken", 6, "no page"))

    def test_refusals(self):
        net = Net(TOWN)
        for door in NO_DOORS_OF_TOWN:
            self.assertIs(error_of(net.ask, door, "home", "news", age=8, patience=9), NoDoor, repr(door)[:300])
        for name in NO_WORDS:
            self.assertIs(error_of(net.ask, 0, name, "news", age=8, patience=9), NoName, repr(name)[:300])
        for page in NO_WORDS:
            self.assertIs(error_of(net.ask, 0, "home", page, age=8, patience=9), NoPage, repr(page)[:300])
        for age in no_wholes(0, 99):
            self.assertIs(error_of(net.ask, 0, "home", "news", age=age, patience=9), NoNumber, repr(age)[:300])
        for patience in no_wholes(1, 200):
            error = error_of(net.ask, 0, "home", "news", age=8, patience=patience)
            self.assertIs(error, NoNumber, repr(patience)[:300])
        self.assertEqual(net.log(), [])
        self.assertEqual(net.ask(0, "home", "news", age=8, patience=9), 0)

    def test_too_many(self):
        net = Net(TOWN)
        for _ in range(12):
            net.ask(0, "home", "news", age=8, patience=9)
        log = net.log()
        with self.assertRaises(TooMany) as caught:
            net.ask(0, "home", "news", age=8, patience=9)
        self.assertEqual((caught.exception.many, caught.exception.most), (13, 12))
        net.on(50)
        # All have ended, and there are twelve all the same.
        self.assertIs(error_of(net.ask, 4, "home", "news", age=8, patience=9), TooMany)
        self.assertEqual(net.log()[:len(log)], log)
        self.assertIs(error_of(net.answer, 12), NoAsk)

    def test_their_order(self):
        full = Net(TOWN)
        for _ in range(12):
            full.ask(0, "home", "news", age=8, patience=9)
        parts = ((0, 1), ("home", None), ("news", []), (8, 100), (9, 201))
        for told in itertools.product(*parts):
            wrong = [place for place, thing in enumerate(told) if thing != parts[place][0]]
            due = (NoDoor, NoName, NoPage, NoNumber, NoNumber)[wrong[0]] if wrong else None
            door, name, page, age, patience = told
            self.assertIs(error_of(Net(TOWN).ask, door, name, page, age=age, patience=patience), due)
            self.assertIs(error_of(full.ask, door, name, page, patience=patience, age=age), due or TooMany)

    def test_age_and_patience_by_their_names_alone(self):
        net = Net(TOWN)
        self.assertRaises(TypeError, lambda: net.ask(0, "home", "news", 8, 9))
        self.assertRaises(TypeError, lambda: net.ask(0, "home", "news", age=8))
        self.assertRaises(TypeError, lambda: net.ask(0, "home", "news", patience=8))
        self.assertEqual(net.ask(patience=9, age=8, page="news", name="home", door=0), 0)


class TestDeeds(unittest.TestCase):
    def test_write(self):
        net = Net(TOWN)
        self.assertEqual(net.write(2, "news", "q"), 2)
        self.assertEqual(net.write(house=2, page="news", text=""), 3)
        self.assertEqual(net.write(3, "news", "abcdefghijklmnop"), 2)
        net.on(2)
        self.assertEqual(net.write(2, "note", "q"), 2)
        rows = [("write", 0, 2, "news", 2, "q"), ("write", 0, 2, "news", 3, "")]
        rows += [("write", 0, 3, "news", 2, "abcdefghijklmnop"), ("write", 2, 2, "note", 2, "q")]
        self.assertEqual(net.log(), rows)

    def test_write_is_refused(self):
        net = Net(TOWN)
        for house in NO_HOUSES_OF_TOWN:
            self.assertIs(error_of(net.write, house, "news", "q"), NoHouse, repr(house)[:300])
        for page in NO_WORDS + ["aa", "home"]:
            self.assertIs(error_of(net.write, 2, page, "q"), NoPage, repr(page)[:300])
        self.assertIs(error_of(net.write, 3, "note", "q"), NoPage)
        for text in NO_LETTERS:
            self.assertIs(error_of(net.write, 2, "news", text), NoText, repr(text)[:300])
        with self.assertRaises(NoText) as caught:
            net.write(2, "news", "A")
        self.assertEqual(caught.exception.row, 0)
        for house, page, text in itertools.product((2, 0, None), ("news", "aa", []), ("q", "Q", {})):
            due = NoHouse if house != 2 else NoPage if page != "news" else NoText if text != "q" else None
            self.assertIs(error_of(Net(TOWN).write, house, page, text), due)
        self.assertEqual(net.log(), [])
        self.assertEqual(net.write(2, "news", "q"), 2)

    def test_lead(self):
        net = Net(TOWN)
        self.assertIsNone(net.lead("home", 3))
        self.assertIsNone(net.lead(house=2, name="shop"))
        net.on(1)
        net.lead("home", 2)
        net.lead("home", 2)
        rows = [("lead", 0, "home", 3), ("lead", 0, "shop", 2), ("lead", 1, "home", 2), ("lead", 1, "home", 2)]
        self.assertEqual(net.log(), rows)

    def test_lead_is_refused(self):
        net = Net(TOWN)
        for name in NO_WORDS + ["news", "hom", "homes"]:
            self.assertIs(error_of(net.lead, name, 2), NoName, repr(name)[:300])
            self.assertIs(error_of(net.lead, name, None), NoName, repr(name)[:300])
        for house in NO_HOUSES_OF_TOWN:
            self.assertIs(error_of(net.lead, "home", house), NoHouse, repr(house)[:300])
        self.assertEqual(net.log(), [])
        net.ask(0, "home", "note", age=8, patience=9)
        net.on(6)
        self.assertEqual(net.answer(0), ("read", 6, 2, 1, "", 1, 4))

    def test_the_four_of_two_places(self):
        for word in ("cut", "mend", "bar", "free"):
            net = Net(TOWN)
            self.assertIsNone(getattr(net, word)(0, 2))
            self.assertIsNone(getattr(net, word)(2, 0))
            net.on(3)
            self.assertIsNone(getattr(net, word)(other=1, one=4))
            self.assertEqual(net.log(), [(word, 0, 0, 2), (word, 0, 0, 2), (word, 3, 1, 4)])

    def test_rules_between_any_two_places(self):
        for word, one, other in itertools.product(("bar", "free"), range(5), range(5)):
            net = Net(TOWN)
            if one == other:
                self.assertIs(error_of(getattr(net, word), one, other), NoPlace)
                self.assertEqual(net.log(), [])
            else:
                getattr(net, word)(one, other)
                self.assertEqual(net.log(), [(word, 0, min(one, other), max(one, other))])

    def test_no_road(self):
        roads = [road[:2] for road in TOWN[1]]
        for word, one, other in itertools.product(("cut", "mend"), range(5), range(5)):
            net = Net(TOWN)
            due = None if (one, other) in roads or (other, one) in roads else NoRoad
            self.assertIs(error_of(getattr(net, word), one, other), due)
            self.assertEqual(len(net.log()), 0 if due else 1)

    def test_no_place(self):
        net = Net(TOWN)
        for word in ("cut", "mend", "bar", "free"):
            call = getattr(net, word)
            for place in NO_PLACES_OF_TOWN:
                self.assertIs(error_of(call, place, 1), NoPlace, repr(place)[:300])
                self.assertIs(error_of(call, 0, place), NoPlace, repr(place)[:300])
                self.assertIs(error_of(call, 3, place), NoPlace, repr(place)[:300])
                self.assertIs(error_of(call, place, place), NoPlace, repr(place)[:300])
        self.assertEqual(net.log(), [])

    def test_the_last_place_of_each_plan(self):
        for plan in (SMALL, APART, GREAT, TOWN):
            for word in ("cut", "mend", "bar", "free"):
                call, last = getattr(Net(plan), word), len(plan[0]) - 1
                self.assertIn(error_of(call, 0, last), (None, NoRoad))
                self.assertIn(error_of(call, last, 0), (None, NoRoad))
                self.assertIs(error_of(call, 0, last + 1), NoPlace)
                self.assertIs(error_of(call, last + 1, 0), NoPlace)

    def test_cut_anew_and_mended_anew(self):
        net = Net(TOWN)
        do_all(net, [("cut", 0, 1), ("cut", 0, 1), ("mend", 0, 1), ("mend", 0, 1), ("mend", 0, 2)])
        net.ask(0, "home", "note", age=8, patience=9)
        net.on(6)
        self.assertEqual(net.answer(0), ("read", 6, 2, 1, "", 1, 4))

    def test_barred_anew_and_freed_anew(self):
        net = Net(TOWN)
        do_all(net, [("bar", 0, 1), ("bar", 1, 0), ("free", 0, 1), ("free", 0, 1), ("free", 0, 2)])
        net.ask(0, "home", "note", age=8, patience=9)
        net.on(6)
        self.assertEqual(net.answer(0), ("read", 6, 2, 1, "", 1, 4))


class TestOn(unittest.TestCase):
    def test_moments(self):
        net = Net(TOWN)
        for moments in (0, 1, 99, 100, 100, 100):
            before = net.now()
            self.assertIsNone(net.on(moments))
            self.assertEqual(net.now(), before + moments)
        self.assertEqual(net.now(), 400)
        self.assertIsNone(net.on(moments=0))
        self.assertEqual(net.log(), [])

    def test_no_number(self):
        net = busy_net()
        told = told_by(net)
        for moments in no_wholes(0, 100):
            self.assertIs(error_of(net.on, moments), NoNumber, repr(moments)[:300])
        self.assertEqual(told_by(net), told)

    def test_too_many(self):
        for now, moments in ((301, 100), (399, 2), (400, 1), (400, 100)):
            net = Net(TOWN)
            do_all(net, [("on", 100)] * (now // 100) + [("on", now % 100)])
            with self.assertRaises(TooMany) as caught:
                net.on(moments)
            self.assertEqual((caught.exception.many, caught.exception.most), (now + moments, 400))
            self.assertEqual(net.now(), now)
            self.assertIs(error_of(net.on, 101), NoNumber)

    def test_at_once_or_one_by_one(self):
        one, other = busy_net(), busy_net()
        one.on(100)
        for _ in range(100):
            other.on(1)
        self.assertEqual(told_by(one), told_by(other))

    def test_no_moment_goes_by(self):
        net = busy_net()
        told = told_by(net)
        net.on(0)
        self.assertEqual(told_by(net), told)


class TestTold(unittest.TestCase):
    def test_answer(self):
        net = Net(TOWN)
        net.ask(0, "home", "news", age=8, patience=20)
        net.ask(0, "away", "news", age=8, patience=20)
        net.ask(4, "home", "aa", age=8, patience=20)
        net.ask(4, "home", "note", age=8, patience=3)
        seen = []
        for _ in range(12):
            seen.append([net.answer(ask) for ask in range(4)])
            net.on(1)
        ends = [("read", 10, 2, 1, "abc", 1, 4), ("broken", 2, "no name")]
        ends += [("broken", 6, "no page"), ("broken", 3, "late")]
        for moment, answers in enumerate(seen):
            self.assertEqual(answers, [end if end[1] <= moment else None for end in ends])
        self.assertEqual(net.answer(ask=0), ends[0])

    def test_no_ask(self):
        for asks in (0, 1, 12):
            net = Net(TOWN)
            for _ in range(asks):
                net.ask(0, "home", "news", age=8, patience=20)
            for ask in no_wholes(0, asks - 1):
                self.assertIs(error_of(net.answer, ask), NoAsk, repr(ask)[:300])
            for ask in range(asks):
                self.assertIsNone(net.answer(ask))

    def test_no_door(self):
        net = busy_net()
        for word in ("door_rows", "name_rows", "keep_rows"):
            for door in NO_DOORS_OF_TOWN:
                self.assertIs(error_of(getattr(net, word), door), NoDoor, repr(door)[:300])
            self.assertIs(type(getattr(net, word)(door=0)), tuple)

    def test_rows_within_a_door(self):
        net = Net(TOWN)
        net.ask(0, "home", "note", age=8, patience=20)
        net.on(1)
        net.ask(0, "shop", "news", age=8, patience=20)
        self.assertEqual(net.door_rows(0), ((0, 0, 0), (1, 1, 1)))
        net.on(5)
        self.assertEqual(net.answer(0), ("read", 6, 2, 1, "", 1, 4))
        self.assertEqual(net.name_rows(0), (("home", 2, 10, 1), ("shop", 3, 99, 2)))
        self.assertEqual(net.keep_rows(0), (((2, "note"), (1, "", 4, 4), 6),))
        # 6: the last letter to the first ask came; 3: the name was told to the second one.
        self.assertEqual(net.door_rows(0), ((0, 0, 6), (1, 1, 3)))
        net.on(10)
        net.ask(0, "home", "note", age=8, patience=20)
        self.assertEqual(net.name_rows(0), (("home", 2, 10, 1), ("shop", 3, 99, 2)))
        self.assertEqual((net.door_rows(4), net.name_rows(4), net.keep_rows(4)), ((), (), ()))

    def test_a_read_from_the_keep_uses_it(self):
        net = Net(TOWN)
        net.ask(0, "home", "note", age=8, patience=20)
        net.on(7)
        net.ask(0, "home", "note", age=8, patience=20)
        self.assertEqual(net.answer(1), ("read", 7, 2, 1, "", 1, 4))
        self.assertEqual(net.keep_rows(0), (((2, "note"), (1, "", 4, 4), 7),))

    def test_a_told_list_is_the_askers_own(self):
        net = busy_net()
        log = net.log()
        kept = list(log)
        log.clear()
        self.assertEqual(net.log(), kept)
        other = net.log()
        other.append(("on", 0))
        self.assertEqual(net.log(), kept)
        net.on(20)
        self.assertEqual(net.log()[:len(kept)], kept)
        self.assertEqual(len(other), len(kept) + 1)

    def test_asked_again(self):
        net = busy_net()
        self.assertEqual(told_by(net), told_by(net))

    def test_kinds(self):
        net = busy_net()
        self.assertIs(type(net.now()), int)
        self.assertIs(type(net.log()), list)
        self.assertEqual({type(row) for row in net.log()}, {tuple})
        self.assertIs(type(net.ask(0, "home", "news", age=8, patience=20)), int)
        self.assertIs(type(net.write(2, "news", "q")), int)
        self.assertIs(type(net.twin()), Net)
        net.on(60)
        self.assertIs(type(net.answer(0)), tuple)

    def test_methods_stand_in_the_class_itself(self):
        for name in (
            "ask", "write", "lead", "cut", "mend", "bar", "free", "on", "now", "answer", "door_rows", "name_rows",
            "keep_rows", "log", "twin", "__eq__",
        ):
            self.assertIn(name, vars(Net))


class TestNothingIsChanged(unittest.TestCase):
    def refusals(self, net):
        return [
            lambda: net.ask(1, "home", "news", age=8, patience=9), lambda: net.ask(0, "", "news", age=8, patience=9),
            lambda: net.ask(0, "home", "", age=8, patience=9), lambda: net.ask(0, "home", "news", age=-1, patience=9),
            lambda: net.ask(0, "home", "news", age=8, patience=0), lambda: net.write(0, "news", "q"),
            lambda: net.write(2, "aa", "q"), lambda: net.write(2, "news", "Q"), lambda: net.lead("aa", 2),
            lambda: net.lead("home", 0), lambda: net.cut(0, 4), lambda: net.cut(0, 5), lambda: net.mend(0, 4),
            lambda: net.mend(-1, 4), lambda: net.bar(0, 0), lambda: net.bar(0, 5), lambda: net.free(1, 1),
            lambda: net.free(None, 1), lambda: net.on(101), lambda: net.on(-1), lambda: net.answer(3),
            lambda: net.door_rows(1), lambda: net.name_rows(1), lambda: net.keep_rows(1),
        ]

    def test_by_what_is_refused(self):
        net, other = busy_net(), busy_net()
        told = told_by(net)
        for call in self.refusals(net):
            self.assertIsNotNone(error_of(call))
            self.assertEqual(told_by(net), told)
        for each in (net, other):
            each.ask(0, "home", "news", age=8, patience=9)
            each.on(100)
        self.assertEqual(told_by(net), told_by(other))

    def test_of_what_is_handed_in(self):
        for thing in THINGS + [list(TOWN), as_lists(TOWN), as_lists(LOSSES)]:
            kept = copy.deepcopy(thing)
            net = Net(TOWN)
            error_of(Net, thing)
            error_of(Net, TOWN, thing)
            error_of(net.ask, thing, thing, thing, age=thing, patience=thing)
            error_of(net.ask, 0, "home", "news", age=thing, patience=thing)
            error_of(net.write, thing, thing, thing)
            error_of(net.write, 2, "news", thing)
            error_of(net.lead, "home", thing)
            error_of(net.cut, 0, thing)
            error_of(net.bar, thing, thing)
            error_of(net.on, thing)
            error_of(net.answer, thing)
            error_of(net.door_rows, thing)
            self.assertEqual(repr(thing), repr(kept))


class TestTwins(unittest.TestCase):
    def test_as_this_one(self):
        for moments in range(0, 60, 3):
            net = busy_net()
            net.on(moments)
            twin = net.twin()
            self.assertIsNot(twin, net)
            self.assertEqual(told_by(twin), told_by(net))
            self.assertEqual(twin, net)
            net.on(90)
            twin.on(90)
            self.assertEqual(told_by(twin), told_by(net))

    def test_of_a_new_net(self):
        for weather in ((), LOSSES):
            net = Net(TOWN, weather)
            twin = net.twin()
            self.assertEqual(told_by(twin), told_by(net))
            for each in (net, twin):
                each.ask(0, "home", "news", age=8, patience=9)
                each.on(50)
            self.assertEqual(told_by(twin), told_by(net))

    def test_at_the_last_moment(self):
        net = busy_net()
        for _ in range(3):
            net.on(100)
        net.on(400 - net.now())
        self.assertEqual(told_by(net.twin()), told_by(net))

    def test_what_is_done_to_one_turns_nothing_of_the_other(self):
        deeds = [
            ("ask", 0, "home", "news", 0, 9), ("write", 2, "news", "zz"), ("lead", "home", 3), ("cut", 0, 1),
            ("mend", 0, 3), ("bar", 0, 2), ("free", 1, 4), ("on", 30),
        ]
        for turned in (0, 1):
            for many in range(len(deeds) + 1):
                net = busy_net()
                pair = (net, net.twin())
                told = told_by(net)
                do_all(pair[turned], deeds[:many])
                other = pair[1 - turned]
                self.assertEqual(told_by(other), told)
                plain = busy_net()
                do_all(plain, deeds[::-1])
                do_all(other, deeds[::-1])
                self.assertEqual(told_by(other), told_by(plain))

    def test_a_twin_of_a_twin(self):
        net = busy_net()
        self.assertEqual(told_by(net.twin().twin().twin()), told_by(net))


class TestEqual(unittest.TestCase):
    def test_equal_nets(self):
        self.assertTrue(Net(TOWN) == Net(TOWN))
        self.assertFalse(Net(TOWN) != Net(TOWN))
        self.assertTrue(busy_net() == busy_net())
        net = busy_net()
        self.assertTrue(net == net)
        one, other = Net(TOWN), Net(TOWN)
        one.on(3)
        do_all(other, [("on", 1)] * 3)
        self.assertTrue(one == other)

    def test_another_plan(self):
        for path, part in (((1, 0, 2), 9), ((2, 0, 2), 11), ((3, 0, 2), "abd"), ((4, 1), 6)):
            self.assertFalse(Net(TOWN) == Net(put_in(TOWN, path, part)))
            self.assertTrue(Net(TOWN) != Net(put_in(TOWN, path, part)))

    def test_another_weather(self):
        self.assertFalse(Net(TOWN) == Net(TOWN, LOSSES))
        self.assertFalse(Net(TOWN, LOSSES) == Net(TOWN, LOSSES[:2]))
        self.assertTrue(Net(TOWN, LOSSES) == Net(TOWN, LOSSES))

    def test_another_moment(self):
        one, other = Net(TOWN), Net(TOWN)
        one.on(1)
        self.assertFalse(one == other)
        other.on(1)
        self.assertTrue(one == other)

    def test_another_log(self):
        for deed in (("cut", 0, 1), ("mend", 0, 1), ("bar", 0, 1), ("write", 2, "news", "abc"), ("lead", "home", 2)):
            one, other = busy_net(), busy_net()
            do_all(one, [deed])
            self.assertFalse(one == other)
            do_all(other, [deed])
            self.assertTrue(one == other)

    def test_nothing_else(self):
        net = busy_net()
        for thing in THINGS + STRANGE_THINGS + [TOWN, net.log(), (TOWN, net.weather, net.log(), net.now())]:
            self.assertIs(net == thing, False)
            self.assertIs(net != thing, True)
            self.assertIs(thing == net, False)


if __name__ == "__main__":
    unittest.main()
