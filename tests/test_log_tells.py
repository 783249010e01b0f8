"""[91]: what is told by a plan and a log alone."""

import copy
import itertools
import unittest

from freshreach.errors import NoHouse, NoLog, NoMoment, NoName, NoPage, NoPlace, NoPlan
from freshreach.nets import Net
from freshreach.papers import barred, led, stood
from tests.runs import chance_run, do, do_all
from tests.samples import (
    APART, GREAT, LONGEST_NUMBER, NO_MOMENTS, NO_WORDS, SMALL, STRANGE_THINGS, THINGS, TOWN, error_of, no_wholes,
)
from tests.test_papers import NO_LOGS

DEEDS = [
    ("write", 2, "news", "q"), ("lead", "home", 3), ("bar", 0, 3), ("on", 2), ("write", 2, "news", ""),
    ("write", 2, "news", "zz"), ("write", 3, "news", "u"), ("lead", "home", 2), ("lead", "home", 3),
    ("lead", "shop", 2), ("free", 3, 0), ("bar", 1, 0), ("ask", 0, "home", "news", 9, 99), ("on", 3),
    ("lead", "home", 2), ("bar", 3, 0),
    ("free", 0, 3), ("bar", 3, 0), ("free", 0, 1), ("free", 0, 1), ("cut", 0, 1), ("mend", 0, 1), ("on", 4),
]
LOG = do_all(Net(TOWN), DEEDS).log()


class TestStood(unittest.TestCase):
    def test_ahead_of_at_and_behind_each_row(self):
        told = [(2, "q"), (2, "q")] + [(4, "zz")] * 20
        self.assertEqual([stood(TOWN, LOG, 2, "news", moment) for moment in range(22)], told)
        told = [(1, "xyz"), (1, "xyz")] + [(2, "u")] * 20
        self.assertEqual([stood(TOWN, LOG, 3, "news", moment) for moment in range(22)], told)
        self.assertEqual([stood(TOWN, LOG, 2, "note", moment) for moment in range(22)], [(1, "")] * 22)
        self.assertEqual(stood(TOWN, LOG, 2, "news", LONGEST_NUMBER), (4, "zz"))

    def test_as_far_as_the_log_goes(self):
        for many, due in ((0, (1, "abc")), (1, (2, "q")), (3, (2, "q")), (4, (3, "")), (5, (4, "zz"))):
            self.assertEqual(stood(TOWN, LOG[:many], 2, "news", 50), due)

    def test_refusals(self):
        for house in no_wholes(0, 4) + [0, 1, 4]:
            self.assertIs(error_of(stood, TOWN, LOG, house, "news", 0), NoHouse, repr(house)[:300])
        for page in NO_WORDS + ["home", "aa", ("news",)]:
            self.assertIs(error_of(stood, TOWN, LOG, 2, page, 0), NoPage, repr(page)[:300])
        self.assertIs(error_of(stood, TOWN, LOG, 3, "note", 0), NoPage)
        for moment in NO_MOMENTS:
            self.assertIs(error_of(stood, TOWN, LOG, 2, "news", moment), NoMoment, repr(moment)[:300])

    def test_their_order(self):
        parts = ((TOWN, None), (LOG, ()), (2, 0), ("news", "aa"), (0, -1))
        for told in itertools.product(*parts):
            wrong = [at for at, thing in enumerate(told) if thing is not parts[at][0]]
            due = (NoPlan, NoLog, NoHouse, NoPage, NoMoment)[wrong[0]] if wrong else None
            self.assertIs(error_of(stood, *told), due)

    def test_by_names(self):
        self.assertEqual(stood(moment=0, page="news", house=2, log=LOG, plan=TOWN), (2, "q"))
        self.assertIs(type(stood(TOWN, LOG, 2, "news", 0)), tuple)
        self.assertIs(type(stood(TOWN, [], 2, "news", 0)), tuple)


class TestLed(unittest.TestCase):
    def test_ahead_of_at_and_behind_each_row(self):
        self.assertEqual([led(TOWN, LOG, "home", moment) for moment in range(20)], [3] * 5 + [2] * 15)
        self.assertEqual([led(TOWN, LOG, "shop", moment) for moment in range(20)], [3] * 2 + [2] * 18)
        self.assertEqual(led(TOWN, LOG, "home", LONGEST_NUMBER), 2)

    def test_as_far_as_the_log_goes(self):
        at = LOG.index(("lead", 2, "home", 2))
        told = [led(TOWN, LOG[:many], "home", 50) for many in (0, 1, 2, at, at + 1, at + 2)]
        self.assertEqual(told, [2, 2, 3, 3, 2, 3])

    def test_refusals(self):
        for name in NO_WORDS + ["news", "hom", ("home",)]:
            self.assertIs(error_of(led, TOWN, LOG, name, 0), NoName, repr(name)[:300])
        for moment in NO_MOMENTS:
            self.assertIs(error_of(led, TOWN, LOG, "home", moment), NoMoment, repr(moment)[:300])

    def test_their_order(self):
        parts = ((TOWN, None), (LOG, ()), ("home", "aa"), (0, -1))
        for told in itertools.product(*parts):
            wrong = [at for at, thing in enumerate(told) if thing is not parts[at][0]]
            due = (NoPlan, NoLog, NoName, NoMoment)[wrong[0]] if wrong else None
            self.assertIs(error_of(led, *told), due)

    def test_by_names(self):
        self.assertEqual(led(moment=0, name="home", log=LOG, plan=TOWN), 3)
        self.assertIs(type(led(TOWN, LOG, "home", 0)), int)


class TestBarred(unittest.TestCase):
    def test_ahead_of_at_and_behind_each_row(self):
        due = {(0, 3): [True] * 2 + [False] * 3 + [True] * 15, (0, 1): [False] * 2 + [True] * 3 + [False] * 15}
        for one, other in itertools.product(range(5), range(5)):
            told = [barred(TOWN, LOG, one, other, moment) for moment in range(20)]
            self.assertEqual(told, due.get((min(one, other), max(one, other)), [False] * 20), (one, other))
        self.assertIs(barred(TOWN, LOG, 0, 3, LONGEST_NUMBER), True)

    def test_as_far_as_the_log_goes(self):
        at = LOG.index(("free", 2, 0, 3))
        told = [barred(TOWN, LOG[:many], 3, 0, 50) for many in (0, 2, 3, at, at + 1)]
        self.assertEqual(told, [False, False, True, True, False])

    def test_refusals(self):
        for place in no_wholes(0, 4):
            self.assertIs(error_of(barred, TOWN, LOG, place, 0, 0), NoPlace, repr(place)[:300])
            self.assertIs(error_of(barred, TOWN, LOG, 0, place, 0), NoPlace, repr(place)[:300])
            self.assertIs(error_of(barred, TOWN, LOG, place, place, 0), NoPlace, repr(place)[:300])
        for moment in NO_MOMENTS:
            self.assertIs(error_of(barred, TOWN, LOG, 0, 3, moment), NoMoment, repr(moment)[:300])

    def test_the_last_place_of_each_plan(self):
        for plan in (SMALL, APART, GREAT, TOWN):
            last = len(plan[0]) - 1
            self.assertIs(barred(plan, [("bar", 0, 0, last)], last, 0, 0), True)
            self.assertIs(error_of(barred, plan, [], 0, last + 1, 0), NoPlace)

    def test_their_order(self):
        parts = ((TOWN, None), (LOG, ()), (0, 5), (3, None), (0, -1))
        for told in itertools.product(*parts):
            wrong = [at for at, thing in enumerate(told) if thing is not parts[at][0]]
            due = (NoPlan, NoLog, NoPlace, NoPlace, NoMoment)[wrong[0]] if wrong else None
            self.assertIs(error_of(barred, *told), due)

    def test_by_names(self):
        self.assertIs(barred(moment=0, other=0, one=3, log=LOG, plan=TOWN), True)
        self.assertIs(barred(TOWN, [], 0, 0, 0), False)


class TestAll(unittest.TestCase):
    CALLS = (
        lambda plan, log: stood(plan, log, 2, "news", 0), lambda plan, log: led(plan, log, "home", 0),
        lambda plan, log: barred(plan, log, 0, 1, 0),
    )

    def test_no_plan_and_no_log(self):
        for call in self.CALLS:
            for plan in THINGS + STRANGE_THINGS:
                self.assertIs(error_of(call, plan, LOG), NoPlan, repr(plan)[:300])
            for log in NO_LOGS:
                self.assertIs(error_of(call, TOWN, log), NoLog, repr(log)[:300])

    def test_what_is_handed_in_is_not_changed(self):
        log, kept = list(LOG), list(LOG)
        for call in self.CALLS:
            call(TOWN, log)
            self.assertEqual(log, kept)
        for thing in THINGS:
            kept = copy.deepcopy(thing)
            error_of(stood, TOWN, LOG, thing, thing, thing)
            error_of(led, TOWN, thing, thing, thing)
            error_of(barred, TOWN, LOG, thing, thing, thing)
            self.assertEqual(repr(thing), repr(kept))

    def test_over_runs(self):
        for seed in range(40):
            plan, weather, deeds = chance_run(seed)
            net = Net(plan, weather)
            written = {(house, page): (1, text) for house, page, text, age in plan[3]}
            names = {name: house for name, house, age in plan[2]}
            rules, seen = set(), {}
            for deed in deeds:
                told = do(net, deed)
                if deed[0] == "write":
                    written[deed[1:3]] = (told, deed[3])
                if deed[0] == "lead":
                    names[deed[1]] = deed[2]
                if deed[0] in ("bar", "free"):
                    rules.discard(tuple(sorted(deed[1:])))
                if deed[0] == "bar":
                    rules.add(tuple(sorted(deed[1:])))
                seen[net.now()] = (dict(written), dict(names), set(rules))
            log = net.log()
            for moment, (written, names, rules) in seen.items():
                for house, page in written:
                    self.assertEqual(stood(plan, log, house, page, moment), written[house, page])
                for name in names:
                    self.assertEqual(led(plan, log, name, moment), names[name])
                for pair in itertools.combinations(range(len(plan[0])), 2):
                    self.assertIs(barred(plan, log, *pair, moment), pair in rules)


if __name__ == "__main__":
    unittest.main()
