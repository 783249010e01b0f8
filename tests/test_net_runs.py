"""[80] to [84] over many runs, beside a net that is written once more and plainly."""

import unittest

from freshreach.nets import Net
from tests.plain_net import PlainNet
from tests.runs import chance_run, do, do_all, places_of
from tests.samples import TOWN, put_in

SEEDS = range(200)


class TestBesideAPlainNet(unittest.TestCase):
    def check(self, net, plain):
        self.assertEqual(net.now(), plain.clock)
        self.assertEqual(net.log(), plain.rows)
        self.assertEqual([net.answer(ask["number"]) for ask in plain.asks], [ask["end"] for ask in plain.asks])
        for door in places_of(net.plan, "door"):
            self.assertEqual(net.door_rows(door), plain.doors[door].rows(plain.clock))
            self.assertEqual(net.name_rows(door), plain.name_rows(door))
            self.assertEqual(net.keep_rows(door), plain.keeps[door].rows())

    def test_runs(self):
        for seed in SEEDS:
            with self.subTest(seed=seed):
                plan, weather, deeds = chance_run(seed)
                net, plain = Net(plan, weather), PlainNet(plan, weather)
                for deed in deeds:
                    self.assertEqual(do(net, deed), do(plain, deed))
                    self.check(net, plain)
                self.assertEqual(net.twin().log(), plain.rows)

    def test_the_runs_have_all_that_may_happen(self):
        seen = set()
        for seed in SEEDS:
            plan, weather, deeds = chance_run(seed)
            for row in do_all(Net(plan, weather), deeds).log():
                seen.add((row[0], row[3]) if row[0] in ("gone", "broken") else (row[0],))
                if row[0] == "came":
                    seen.add((row[0], row[3][0]))
        words = ("ask", "write", "lead", "cut", "mend", "bar", "free", "sent", "came", "full", "read")
        due = {(word,) for word in words} | {("broken", why) for why in ("late", "no name", "no page")}
        due |= {("gone", why) for why in ("no way", "lost", "barred", "nobody", "strange")}
        due |= {("came", word) for word in ("who", "named", "unnamed", "piece", "same", "none")}
        self.assertEqual(seen, due)


class TestLetters(unittest.TestCase):
    """[81], each letter of a run that would be read at the moment 10."""

    def moments(self, weather):
        """letter: the moments at which it came, or is gone as a stranger."""
        net = Net(TOWN[:4] + ((2, 40, 60, 2, 2),), weather)
        net.ask(0, "home", "news", age=99, patience=200)
        do_all(net, [("on", 100)] * 3)
        found = {}
        for row in net.log():
            if row[0] in ("came", "gone"):
                found.setdefault(row[2], []).append((row[1], row[3] if row[0] == "gone" else "came"))
        return found

    def test_whole(self):
        whole = {0: 1, 1: 2, 2: 4, 3: 6, 4: 8, 5: 10}
        self.assertEqual(self.moments(()), {letter: [(moment, "came")] for letter, moment in whole.items()})

    def test_lost(self):
        for letter, sent in enumerate((0, 1, 2, 4, 6, 8)):
            found = self.moments(((letter, ("lost",)),))
            self.assertEqual(found[letter], [(sent, "lost")])

    def test_late(self):
        for letter, comes in enumerate((1, 2, 4, 6, 8, 10)):
            for moments in (1, 5, 20):
                found = self.moments(((letter, ("late", moments)),))
                self.assertEqual(found[letter], [(comes + moments, "came")])

    def test_twice(self):
        for letter, comes in enumerate((1, 2, 4, 6, 8, 10)):
            for moments in (0, 1, 5, 60):
                found = self.moments(((letter, ("twice", moments)),))
                # A question is answered once more; an answer is a stranger when it comes again.
                again = "came" if letter % 2 == 0 else "strange"
                self.assertEqual(found[letter], [(comes, "came"), (comes + moments, again)], (letter, moments))

    def test_a_fate_of_a_letter_that_is_not_sent(self):
        self.assertEqual(self.moments(((6, ("lost",)), (400, ("late", 3)))), self.moments(()))

    def test_by_the_roads_that_are_whole_when_it_is_sent(self):
        net = Net(TOWN)
        net.ask(0, "home", "note", age=99, patience=20)
        for one, other, long in TOWN[1]:
            net.cut(one, other)
        net.on(3)
        rows = [("came", 1, 0, ("who", 0, (0, 1), "home"))]
        rows += [("sent", 1, 1, 1, 0, ("named", 0, (0, 1), "home", 2, 10, 1)), ("gone", 1, 1, "no way")]
        self.assertEqual(net.log()[-3:], rows)

    def test_no_way_whatever_its_fate(self):
        for fate in (("lost",), ("late", 1), ("twice", 0)):
            net = Net(put_in(TOWN, (1,), ()), ((0, fate),))
            net.ask(0, "home", "note", age=99, patience=4)
            net.on(9)
            self.assertEqual(net.log()[2:], [("gone", 0, 0, "no way"), ("broken", 4, 0, "late")])


class TestYards(unittest.TestCase):
    def test_what_one_yard_asks_turns_no_answer_of_another(self):
        for seed in SEEDS:
            plan, weather, deeds = chance_run(seed)
            whole = do_all(Net(plan), deeds)
            for door in places_of(plan, "door"):
                others = [deed for deed in deeds if deed[0] != "ask" or deed[1] == door]
                alone = do_all(Net(plan), others)
                here = [row[2] for row in whole.log() if row[0] == "ask" and row[3] == door]
                told = [alone.answer(ask) for ask in range(len(here))]
                self.assertEqual([whole.answer(ask) for ask in here], told, (seed, door))


if __name__ == "__main__":
    unittest.main()
