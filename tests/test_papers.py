"""[90] papers."""

import copy
import itertools
import unittest

from freshreach.errors import NoAsk, NoLog, NoPlan
from freshreach.nets import Net
from freshreach.papers import is_paper, paper_of
from tests.runs import chance_run, do_all
from tests.samples import LONGEST_NUMBER, STRANGE_THINGS, THINGS, TOWN, as_lists, error_of, no_wholes

# The ask 0 reads at 10 what it pulled; 1 reads it at once; 2 asks whether it is the same, then who it is;
# 3 knows no name, 4 no page, 5 is late, 6 has not ended.
DEEDS = [
    ("ask", 0, "home", "news", 8, 40), ("on", 10), ("ask", 0, "home", "news", 6, 40),
    ("ask", 0, "home", "news", 5, 40), ("on", 10), ("ask", 4, "away", "news", 5, 40), ("on", 9),
    ("ask", 4, "home", "nose", 5, 40), ("on", 9), ("ask", 4, "home", "news", 5, 1), ("on", 1),
    ("ask", 4, "home", "news", 5, 99),
]
LOG = do_all(Net(TOWN), DEEDS).log()
PAPERS = [
    ("read", 3, (7, 11), None), ("read", 3, (7, 11), None), ("read", 23, (7, 11), 19),
    ("none", 29), ("none", 39), ("late", 42),
]

NO_LOGS = [thing for thing in THINGS + STRANGE_THINGS if thing != []] + [
    tuple(LOG), as_lists(tuple(LOG)), LOG + [None], LOG + [()], LOG + [("on",)], LOG + [(0, "on")], LOG + [["on", 0]],
    LOG + [("on", -1)], LOG + [("on", True)], LOG + [("on", None)], LOG + [("on", "0")], LOG + [(None, 0)],
    [("on", 0.5)] + LOG, [(b"on", 0)] + LOG, dict(enumerate(LOG)), [LOG],
]


def plain_is_paper(log, ask, thing):
    """What [90] says of a paper, sentence by sentence, of a log that a net has told."""
    asked = [row for row in log if row[0] == "ask" and row[2] == ask]
    ends = [at for at, row in enumerate(log) if row[0] in ("read", "broken") and row[2] == ask]
    if not ends or type(thing) is not tuple or not thing:
        return False
    begun, end, ended = log.index(asked[0]), ends[0], log[ends[0]]
    word, now, number, door, name, page, wished, patience = asked[0]

    def answer(at, word):
        """The row and the body of an answer with this word that was sent ahead of the end, else None."""
        if type(at) is not int or not 0 <= at < end or log[at][0] != "sent":
            return None
        row, body = log[at], log[at][5]
        return (row, body) if body[0] == word and TOWN[0][row[3]] != "door" else None

    if len(thing) == 4 and thing[0] == "read" and ended[0] == "read" and type(thing[2]) is tuple:
        word, moment, number, house, version, text, named, at = ended
        told = answer(thing[1], "named")
        pieces = [answer(piece, "piece") for piece in thing[2]]
        same = answer(thing[3], "same")
        if told is None or None in pieces or not pieces or (same is None and thing[3] is not None):
            return False
        if told[1][3] != name or told[1][4] != house or told[1][6] != named or moment - named > told[1][5]:
            return False
        for row, body in pieces + ([same] if same else []):
            if row[3] != house or body[3] != page or body[4] != version:
                return False
        if [body[6] for row, body in pieces] != list(range(pieces[0][1][5])):
            return False
        if "".join([body[7] for row, body in pieces]) != text:
            return False
        fresh = same[1][6] if same else min([body[9] for row, body in pieces])
        age = same[1][5] if same else pieces[-1][1][8]
        return fresh == at and moment - at <= wished and moment - at <= age
    if len(thing) == 2 and ended[0] == "broken" and type(thing[1]) is int:
        if thing[0] == "late":
            return thing[1] == begun and ended[3] == "late" and ended[1] == now + patience
        if thing[0] == "none" and ended[3] == "no name":
            told = answer(thing[1], "unnamed")
            return told is not None and told[1][3] == name
        if thing[0] == "none" and ended[3] == "no page":
            told = answer(thing[1], "none")
            return told is not None and told[1][3] == page
    return False


class TestPapers(unittest.TestCase):
    def test_the_right_ones(self):
        for ask, paper in enumerate(PAPERS):
            self.assertIs(is_paper(TOWN, LOG, ask, paper), True, ask)
            self.assertEqual(paper_of(TOWN, LOG, ask), paper)

    def test_none_of_another_ask(self):
        for ask, paper in itertools.product(range(7), PAPERS):
            due = ask < 6 and (paper == PAPERS[ask])
            self.assertIs(is_paper(TOWN, LOG, ask, paper), due, (ask, paper))

    def test_one_thing_otherwise_at_each_place(self):
        numbers = list(range(-len(LOG) - 1, len(LOG) + 1)) + [LONGEST_NUMBER, -LONGEST_NUMBER]
        numbers += [None, True, False, "3", (3,), [3]]
        for ask in range(3):
            word, told, pieces, same = PAPERS[ask]
            for number in numbers:
                for thing in (
                    (word, number, pieces, same), (word, told, (number, pieces[1]), same),
                    (word, told, (pieces[0], number), same), (word, told, pieces, number),
                ):
                    self.assertIs(is_paper(TOWN, LOG, ask, thing), plain_is_paper(LOG, ask, thing), (ask, thing))
        for ask in (3, 4, 5):
            for number in numbers:
                for word in ("late", "none", "read"):
                    due = plain_is_paper(LOG, ask, (word, number))
                    self.assertIs(is_paper(TOWN, LOG, ask, (word, number)), due, (ask, word, number))
                    self.assertEqual(due, repr((word, number)) == repr(PAPERS[ask]))

    def test_other_forms(self):
        for ask in range(3):
            word, told, pieces, same = PAPERS[ask]
            for thing in (
                (word, told, pieces), (word, told, pieces, same, None), [word, told, pieces, same],
                ("late", told, pieces, same), ("none", told, pieces, same), (None, told, pieces, same),
                (word, told, list(pieces), same), (word, told, pieces[::-1], same), (word, told, pieces[:1], same),
                (word, told, pieces[1:], same), (word, told, (), same), (word, told, pieces + pieces, same),
                (word, told, pieces + pieces[1:], same), (word, told, pieces * 1000, same), (word, told, None, same),
                (word, told, pieces[0], same), (word, told, (pieces,), same), (word, told, pieces, (same,)),
                (word, told, {7: 7, 11: 11}, same), (word, told, "ab", same), (("read",), told, pieces, same),
                ("late", 0), ("none", 0), ("late", 0, None), ("none", 3, None),
            ):
                self.assertIs(is_paper(TOWN, LOG, ask, thing), False, (ask, repr(thing)[:300]))
        for ask in (3, 4, 5):
            word, told = PAPERS[ask]
            for thing in (
                (word,), (word, told, None), [word, told], (None, told), (told, word), (word, (told,)), (word, [told]),
                ("read", told), ("read", 3, (7, 11), None), ("late" if word == "none" else "none", told),
            ):
                self.assertIs(is_paper(TOWN, LOG, ask, thing), False, (ask, repr(thing)[:300]))

    def test_of_anything(self):
        for ask, thing in itertools.product(range(9), THINGS + STRANGE_THINGS):
            self.assertIs(is_paper(TOWN, LOG, ask, thing), False, repr(thing)[:300])
            for place in range(4):
                paper = PAPERS[0][:place] + (thing,) + PAPERS[0][place + 1:]
                self.assertIs(is_paper(TOWN, LOG, ask, paper), plain_is_paper(LOG, ask, paper), repr(paper)[:300])
            for paper in (("late", thing), ("none", thing), (thing, 29)):
                self.assertIs(is_paper(TOWN, LOG, ask, paper), False, repr(paper)[:300])

    def test_truths_are_no_numbers(self):
        net = Net(TOWN)
        net.ask(0, "home", "news", age=9, patience=1)
        net.on(1)
        self.assertIs(is_paper(TOWN, net.log(), 0, ("late", 0)), True)
        self.assertIs(is_paper(TOWN, net.log(), 0, ("late", False)), False)

    def test_numbers_do_not_count_from_the_end(self):
        net = Net(TOWN)
        do_all(net, [("ask", 0, "away", "news", 9, 99), ("on", 2), ("ask", 0, "away", "news", 9, 99), ("on", 1)])
        log = net.log()
        self.assertEqual(log[-1][5], ("unnamed", 1, (1, 1), "away", 3))
        self.assertEqual(paper_of(TOWN, log, 0), ("none", 3))
        for number in range(-len(log), len(log)):
            self.assertIs(is_paper(TOWN, log, 0, ("none", number)), number == 3)

    def test_not_ended_or_not_there(self):
        for ask in (6, 7, 12, 100, LONGEST_NUMBER):
            self.assertIsNone(paper_of(TOWN, LOG, ask))
            for paper in PAPERS + [("late", 44), ("late", len(LOG) - 2)]:
                self.assertIs(is_paper(TOWN, LOG, ask, paper), False)
        self.assertIsNone(paper_of(TOWN, [], 0))
        self.assertIs(is_paper(TOWN, [], 0, ("late", 0)), False)

    def test_as_the_log_grows(self):
        net = Net(TOWN)
        net.ask(0, "home", "news", age=8, patience=40)
        for moment in range(12):
            due = PAPERS[0] if moment >= 10 else None
            self.assertEqual(paper_of(TOWN, net.log(), 0), due)
            self.assertIs(is_paper(TOWN, net.log(), 0, PAPERS[0]), moment >= 10)
            net.on(1)

    def test_whoever_asked_by_whichever_door(self):
        net = Net(TOWN[:4] + ((2, 40, 60, 2, 2),))
        net.ask(0, "shop", "news", age=99, patience=99)
        net.ask(0, "shop", "note", age=99, patience=99)
        net.on(40)
        log = net.log()
        names = [at for at, row in enumerate(log) if row[0] == "sent" and row[5][0] == "named"]
        word, told, pieces, same = paper_of(net.plan, log, 0)
        # Both asks were told the name at the same moment: the answer to either shows it.
        self.assertEqual(len(names), 2)
        for name in names:
            self.assertIs(is_paper(net.plan, log, 0, (word, name, pieces, same)), True)

    def test_pieces_of_another_pull(self):
        net = Net(TOWN[:4] + ((2, 40, 60, 2, 2),))
        net.ask(0, "shop", "news", age=99, patience=99)
        net.ask(4, "shop", "news", age=99, patience=99)
        net.on(60)
        log = net.log()
        read = net.answer(0)
        end = log.index(("read", read[1], 0) + read[2:])
        pieces = [
            [at for at, row in enumerate(log) if row[0] == "sent" and row[5][0] == "piece" and row[3] == 3
             and row[4] == door] for door in (0, 4)
        ]
        told = paper_of(net.plan, log, 0)[1]
        for chosen in itertools.product(*zip(*pieces)):
            due = min([log[at][1] for at in chosen]) == read[6] and max(chosen) < end
            self.assertIs(is_paper(net.plan, log, 0, ("read", told, chosen, None)), due)


class TestForgedRows(unittest.TestCase):
    """Each thing that is looked at, turned in the log: the paper is none any more."""

    def forged(self, at, *turns):
        """The log with parts of one row otherwise; (5, k) is the place k of the body."""
        row = list(LOG[at])
        for place, part in turns:
            if isinstance(place, tuple):
                row[5] = row[5][:place[1]] + (part,) + row[5][place[1] + 1:]
            else:
                row[place] = part
        return LOG[:at] + [tuple(row)] + LOG[at + 1:]

    def test_papers_of_what_is_read(self):
        read = LOG.index(("read", 10, 0, 2, 1, "abc", 1, 4))
        for at, *turns in (
            (3, ((5, 3), "shop")), (3, ((5, 4), 3)), (3, ((5, 6), 2)), (3, ((5, 5), 8)), (3, ((5, 0), "unnamed")),
            (7, ((5, 3), "note")), (7, ((5, 4), 2)), (7, ((5, 5), 3)), (7, ((5, 6), 1)), (7, ((5, 7), "ac")),
            (7, ((5, 9), 5)), (7, (3, 3)), (11, ((5, 6), 0)), (11, ((5, 7), "")), (11, ((5, 8), 5)), (11, (3, 3)),
            (11, ((5, 9), 3)), (3, (0, "came")), (7, (0, "gone")), (0, (4, "shop")), (0, (5, "note")), (0, (6, 5)),
            (read, (1, 12)), (read, (3, 3)), (read, (4, 2)), (read, (5, "ab")), (read, (6, 0)), (read, (7, 5)),
        ):
            self.assertIs(is_paper(TOWN, self.forged(at, *turns), 0, PAPERS[0]), False, (at, turns))
        for at, *turns in ((3, ((5, 5), 9)), (11, ((5, 8), 6)), (7, ((5, 8), 0)), (0, (6, 6)), (11, ((5, 9), 4))):
            self.assertIs(is_paper(TOWN, self.forged(at, *turns), 0, PAPERS[0]), True, (at, turns))

    def test_papers_with_the_same(self):
        for at, *turns in (
            (19, ((5, 3), "note")), (19, ((5, 4), 2)), (19, ((5, 5), 3)), (19, ((5, 6), 11)), (19, (3, 3)),
            (19, ((5, 0), "piece")), (16, (6, 3)),
        ):
            self.assertIs(is_paper(TOWN, self.forged(at, *turns), 2, PAPERS[2]), False, (at, turns))
        for at, *turns in ((19, ((5, 5), 4)), (16, (6, 4)), (11, ((5, 8), 0)), (7, ((5, 9), 14))):
            self.assertIs(is_paper(TOWN, self.forged(at, *turns), 2, PAPERS[2]), True, (at, turns))

    def test_broken_ones(self):
        ends = [at for at, row in enumerate(LOG) if row[0] == "broken"]
        for ask, at, *turns in (
            (3, 29, ((5, 3), "home")), (3, 29, ((5, 0), "none")), (3, 29, (0, "came")), (3, ends[0], (3, "no page")),
            (3, ends[0], (3, "late")), (4, 39, ((5, 3), "news")), (4, 39, ((5, 0), "unnamed")), (4, 39, (0, "came")),
            (4, ends[1], (3, "no name")), (4, ends[1], (3, "late")), (5, ends[2], (3, "no name")),
            (5, ends[2], (1, 38)), (5, ends[2], (1, 40)), (5, 42, (7, 2)), (5, 42, (1, 37)),
        ):
            self.assertIs(is_paper(TOWN, self.forged(at, *turns), ask, PAPERS[ask]), False, (ask, at, turns))

    def test_behind_the_end_nothing_counts(self):
        for ask, at, end in ((0, 3, 13), (0, 7, 13), (0, 11, 13), (2, 19, 25), (3, 29, 31), (4, 39, 41)):
            for moved in (end + 1, len(LOG)):
                log = LOG[:at] + [("full", 0, 0)] + LOG[at + 1:]
                log.insert(moved, LOG[at])
                self.assertIs(is_paper(TOWN, log, ask, self.moved(PAPERS[ask], at, moved)), False, (ask, at))

    def moved(self, paper, at, number):
        """The paper with another number in the place of this one."""
        parts = [tuple([number if k == at else k for k in part]) if isinstance(part, tuple) else part for part in paper]
        return tuple([number if part == at else part for part in parts])


class TestRefusals(unittest.TestCase):
    def test_no_plan(self):
        for plan in THINGS + STRANGE_THINGS + [list(TOWN), TOWN[:4]]:
            self.assertIs(error_of(is_paper, plan, LOG, 0, PAPERS[0]), NoPlan, repr(plan)[:300])
            self.assertIs(error_of(paper_of, plan, LOG, 0), NoPlan, repr(plan)[:300])

    def test_no_log(self):
        for log in NO_LOGS:
            self.assertIs(error_of(is_paper, TOWN, log, 0, PAPERS[0]), NoLog, repr(log)[:300])
            self.assertIs(error_of(paper_of, TOWN, log, 0), NoLog, repr(log)[:300])

    def test_rows_of_a_text_and_a_moment(self):
        self.assertEqual(paper_of(TOWN, LOG + [("on", 50)], 0), PAPERS[0])
        self.assertIs(is_paper(TOWN, LOG + [("", LONGEST_NUMBER)], 0, PAPERS[0]), True)

    def test_no_ask(self):
        for ask in no_wholes(0):
            self.assertIs(error_of(is_paper, TOWN, LOG, ask, PAPERS[0]), NoAsk, repr(ask)[:300])
            self.assertIs(error_of(paper_of, TOWN, LOG, ask), NoAsk, repr(ask)[:300])
            self.assertIs(error_of(paper_of, TOWN, [], ask), NoAsk, repr(ask)[:300])

    def test_their_order(self):
        for plan, log, ask in itertools.product((TOWN, None), (LOG, None), (0, None)):
            due = NoPlan if plan is None else NoLog if log is None else NoAsk if ask is None else None
            self.assertIs(error_of(is_paper, plan, log, ask, None), due)
            self.assertIs(error_of(paper_of, plan, log, ask), due)


class TestArguments(unittest.TestCase):
    def test_by_their_names(self):
        self.assertIs(is_paper(thing=PAPERS[0], ask=0, log=LOG, plan=TOWN), True)
        self.assertEqual(paper_of(ask=0, log=LOG, plan=TOWN), PAPERS[0])

    def test_what_is_handed_in_is_not_changed(self):
        log, kept = list(LOG), list(LOG)
        for ask in range(8):
            paper_of(TOWN, log, ask)
            is_paper(TOWN, log, ask, PAPERS[0])
        self.assertEqual(log, kept)
        for thing in THINGS:
            kept = copy.deepcopy(thing)
            error_of(is_paper, thing, thing, thing, thing)
            error_of(is_paper, TOWN, thing, thing, thing)
            error_of(is_paper, TOWN, LOG, 0, thing)
            error_of(paper_of, TOWN, LOG, thing)
            self.assertEqual(repr(thing), repr(kept))

    def test_asked_again(self):
        for ask in range(8):
            self.assertEqual(paper_of(TOWN, LOG, ask), paper_of(TOWN, list(LOG), ask))


class TestOverRuns(unittest.TestCase):
    def test_each_answer_has_a_paper_and_none_for_another_one(self):
        seen = set()
        for seed in range(150):
            plan, weather, deeds = chance_run(seed)
            net = do_all(Net(plan, weather), deeds)
            log = net.log()
            for ask in [row[2] for row in log if row[0] == "ask"]:
                paper, answer = paper_of(plan, log, ask), net.answer(ask)
                if answer is None:
                    self.assertIsNone(paper)
                    continue
                self.assertIs(is_paper(plan, log, ask, paper), True, (seed, ask))
                due = "read" if answer[0] == "read" else "late" if answer[2] == "late" else "none"
                self.assertEqual(paper[0], due)
                seen.add((due, due == "read" and paper[3] is not None))
                self.check_other_ends(plan, log, ask, paper, (seed, ask))
        self.assertEqual(len(seen), 4)

    def check_other_ends(self, plan, log, ask, paper, told):
        """The log with another end of the ask: what was its paper is none."""
        at = [at for at, row in enumerate(log) if row[0] in ("read", "broken") and row[2] == ask][0]
        row = log[at]
        others = [("broken", row[1], ask, why) for why in ("late", "no name", "no page")]
        if row[0] == "read":
            word, now, number, house, version, text, named, fresh = row
            others += [(word, now, number, house + 1, version, text, named, fresh)]
            others += [(word, now, number, house, version + 1, text, named, fresh)]
            others += [(word, now, number, house, version, text + "x", named, fresh)]
            others += [(word, now, number, house, version, text, named - 1, fresh)]
            others += [(word, now, number, house, version, text, named, fresh + 1)]
        for other in others:
            if other != row:
                forged = log[:at] + [other] + log[at + 1:]
                self.assertIs(is_paper(plan, forged, ask, paper), False, told)


if __name__ == "__main__":
    unittest.main()
