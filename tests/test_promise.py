"""[3]: the promise, over whole runs, by the rows of what happened."""

import unittest

from freshreach.nets import Net
from freshreach.papers import barred, is_paper, led, paper_of, stood
from tests.runs import chance_run, do_all, places_of

SEEDS = range(200, 450)


def finished(seed):
    """A plan and the log of a run that goes on until each ask must have ended."""
    plan, weather, deeds = chance_run(seed)
    net = do_all(Net(plan, weather), deeds)
    while net.now() < 400:
        net.on(min(100, 400 - net.now()))
    return plan, net.log(), net


RUNS = [finished(seed) for seed in SEEDS]


class TestPromise(unittest.TestCase):
    def reads(self):
        """Each run's plan, log, and the pairs of its rows ("ask", ..) and ("read", ..)."""
        for plan, log, net in RUNS:
            asked = {row[2]: row for row in log if row[0] == "ask"}
            yield plan, log, [(asked[row[2]], row) for row in log if row[0] == "read"]

    def test_a_good_deal_is_read(self):
        self.assertGreater(sum([len(reads) for plan, log, reads in self.reads()]), 100)

    def test_each_asking_ends_by_its_patience(self):
        for plan, log, net in RUNS:
            for word, now, ask, door, name, page, age, patience in [row for row in log if row[0] == "ask"]:
                ends = [row for row in log if row[0] in ("read", "broken") and row[2] == ask]
                if now + patience > 400:
                    self.assertLessEqual(len(ends), 1)
                    continue
                self.assertEqual(len(ends), 1)
                self.assertLessEqual(ends[0][1], now + patience)
                self.assertEqual(net.answer(ask), (ends[0][0], ends[0][1]) + ends[0][3:])

    def test_the_book_told_the_house(self):
        for plan, log, reads in self.reads():
            ages = {name: age for name, house, age in plan[2]}
            for asked, read in reads:
                name, house, named = asked[4], read[3], read[6]
                self.assertLessEqual(named, read[1])
                self.assertLessEqual(read[1] - named, ages[name])
                # It was told ahead of the deeds of that moment.
                self.assertEqual(led(plan, log, name, named - 1) if named else led(plan, [], name, 0), house)

    def test_the_house_had_the_page(self):
        for plan, log, reads in self.reads():
            ages = {(house, page): age for house, page, text, age in plan[3]}
            for asked, read in reads:
                word, now, ask, house, version, text, named, at = read
                page = asked[5]
                self.assertLessEqual(at, now)
                self.assertLessEqual(now - at, ages[house, page])
                self.assertLessEqual(now - at, asked[6])
                self.assertEqual(stood(plan, log, house, page, at - 1) if at else (1, text), (version, text))

    def test_nothing_is_read_of_the_house_of_before(self):
        for plan, log, reads in self.reads():
            ages = {name: age for name, house, age in plan[2]}
            for asked, read in reads:
                name, now = asked[4], read[1]
                since = max(0, now - ages[name])
                lately = [led(plan, log, name, moment) for moment in range(max(0, since - 1), now + 1)]
                self.assertIn(read[3], lately)

    def test_broken_with_a_reason(self):
        for plan, log, net in RUNS:
            asked = {row[2]: row for row in log if row[0] == "ask"}
            for word, now, ask, why in [row for row in log if row[0] == "broken"]:
                name, page = asked[ask][4:6]
                if why == "late":
                    self.assertEqual(now, asked[ask][1] + asked[ask][7])
                elif why == "no name":
                    self.assertNotIn(name, [row[0] for row in plan[2]])
                else:
                    self.assertEqual(why, "no page")
                    having = [row[0] for row in plan[3] if row[1] == page]
                    self.assertNotEqual(having, places_of(plan, "house"))

    def test_no_letter_comes_while_a_rule_bars(self):
        for plan, log, net in RUNS:
            sent = {row[2]: row for row in log if row[0] == "sent"}
            for at, row in enumerate(log):
                if row[0] == "came" or row[0] == "gone" and row[3] in ("barred", "nobody", "strange"):
                    one, other = sent[row[2]][3:5]
                    due = row[0] == "gone" and row[3] == "barred"
                    self.assertIs(barred(plan, log[:at], one, other, row[1]), due)

    def test_each_answer_has_a_paper(self):
        for plan, log, net in RUNS:
            for ask in [row[2] for row in log if row[0] in ("read", "broken")]:
                self.assertIs(is_paper(plan, log, ask, paper_of(plan, log, ask)), True)

    def test_what_one_yard_asks_turns_no_answer_of_another(self):
        for seed in SEEDS:
            plan, weather, deeds = chance_run(seed)
            doors = places_of(plan, "door")
            whole = do_all(Net(plan), deeds)
            here = [row[2] for row in whole.log() if row[0] == "ask" and row[3] == doors[0]]
            alone = do_all(Net(plan), [deed for deed in deeds if deed[0] != "ask" or deed[1] == doors[0]])
            self.assertEqual([whole.answer(ask) for ask in here], [alone.answer(ask) for ask in range(len(here))])


if __name__ == "__main__":
    unittest.main()
