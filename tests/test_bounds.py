"""[100], [101]: by when an ask ends, what breaks it, and where two plans part."""

import copy
import itertools
import random
import unittest

from freshreach.bounds import first_parting, latest, surely
from freshreach.errors import NoDoor, NoName, NoNumber, NoPage, NoPlan
from freshreach.nets import Net
from tests.runs import AGES, chance_plan, places_of
from tests.samples import NO_WORDS, SMALL, STRANGE_THINGS, THINGS, TOWN, error_of, no_wholes, put_in

# From here no letter has a way to the book.
CLOSED = put_in(TOWN, (1,), ((0, 2, 2), (2, 4, 1)))
# More letters than any of the short runs below sends.
MANY = 40


def lost(*numbers):
    return tuple([(number, ("lost",)) for number in numbers])


def whole_run(plan, wish, weather):
    """The answer, and how many letters are sent in all."""
    door, name, page, age, patience = wish
    net = Net(plan, weather)
    net.ask(door, name, page, age=age, patience=patience)
    net.on(patience)
    return net.answer(0), len([row for row in net.log() if row[0] == "sent"])


def plain_answers(plan, wish, most):
    """Of all weathers of [100] the answers, by trying each one."""
    found = {}
    for many in range(most + 1):
        for numbers in itertools.combinations(range(MANY), many):
            answer, sent = whole_run(plan, wish, lost(*numbers))
            assert sent < MANY
            if all([number < sent for number in numbers]):
                found[lost(*numbers)] = answer
    return found


def plain_first(weathers):
    return min(weathers, key=lambda weather: (len(weather), weather))


def plain_latest(answers):
    moment = max([answer[1] for answer in answers.values()])
    return moment, plain_first([weather for weather in answers if answers[weather][1] == moment])


def plain_surely(answers):
    broken = [weather for weather in answers if answers[weather][0] == "broken"]
    return ("breaks", plain_first(broken)) if broken else ("surely", plain_latest(answers)[0])


def chance_case(chance, patience, read):
    """A plan and a wish, one that is read where no letter is lost, if it is to be."""
    while True:
        plan = chance_plan(chance)
        name = chance.choice([row[0] for row in plan[2]])
        wish = (chance.choice(places_of(plan, "door")), name, chance.choice("pq"), chance.choice(AGES[1:]), patience)
        if not read or whole_run(plan, wish, ())[0][0] == "read":
            return plan, wish


def other_plan(chance, plan):
    """A plan that is the other one but for one number, if it has that many roads."""
    bounds, at = plan[4], chance.randrange(max(1, len(plan[1])))
    road = (1, at, 2)
    return chance.choice([
        put_in(plan, (4, 1), bounds[1] % 9 + 1), put_in(plan, (4, 2), bounds[2] % 9 + 1),
        put_in(plan, road, plan[1][at][2] % 9 + 1) if plan[1] else plan,
        put_in(plan, (2, 0, 2), (plan[2][0][2] + 3) % 9), put_in(plan, (3, 0, 3), (plan[3][0][3] + 3) % 9),
    ])


def calls(plan, wish, **more):
    door, name, page, age, patience = wish
    return [call(plan, door, name, page, age=age, patience=patience, **more) for call in (latest, surely)]


class TestByHand(unittest.TestCase):
    def test_no_lost_letter(self):
        self.assertEqual(latest(TOWN, 0, "home", "news", age=8, patience=40, lost=0), (10, ()))
        self.assertEqual(surely(TOWN, 0, "home", "news", age=8, patience=40, lost=0), ("surely", 10))

    def test_one_lost_letter(self):
        # The question for the piece 1 is sent at 6, again at 11: at 15 the name is too old, at 17 the page,
        # and at 21 the house has told that it is the same.
        self.assertEqual(latest(TOWN, 0, "home", "news", age=8, patience=40, lost=1), (21, lost(4)))
        self.assertEqual(surely(TOWN, 0, "home", "news", age=8, patience=40, lost=1), ("surely", 21))
        self.assertEqual(latest(TOWN, 0, "home", "news", age=8, patience=40), (21, lost(4)))
        self.assertEqual(surely(TOWN, 0, "home", "news", age=8, patience=40), ("surely", 21))

    def test_two_lost_letters(self):
        self.assertEqual(latest(TOWN, 0, "home", "news", age=8, patience=40, lost=2), (26, lost(0, 5)))
        self.assertEqual(surely(TOWN, 0, "home", "news", age=8, patience=40, lost=2), ("surely", 26))

    def test_a_patience_that_a_lost_letter_breaks(self):
        for patience, told in ((10, lost(0)), (15, lost(2)), (20, lost(4)), (21, lost(0, 3))):
            self.assertEqual(surely(TOWN, 0, "home", "news", age=8, patience=patience, lost=2), ("breaks", told))
            self.assertEqual(latest(TOWN, 0, "home", "news", age=8, patience=patience, lost=2)[0], patience)

    def test_broken_with_no_lost_letter(self):
        self.assertEqual(latest(TOWN, 0, "home", "news", age=8, patience=9, lost=0), (9, ()))
        self.assertEqual(surely(TOWN, 0, "home", "news", age=8, patience=9, lost=0), ("breaks", ()))
        self.assertEqual(surely(TOWN, 0, "home", "news", age=8, patience=9), ("breaks", ()))
        self.assertEqual(surely(TOWN, 0, "away", "news", age=8, patience=40, lost=2), ("breaks", ()))
        self.assertEqual(latest(TOWN, 0, "away", "news", age=8, patience=40, lost=0), (2, ()))
        self.assertEqual(latest(TOWN, 0, "away", "news", age=8, patience=40, lost=1), (7, lost(0)))
        self.assertEqual(latest(TOWN, 0, "away", "news", age=8, patience=40, lost=2), (12, lost(0, 1)))
        self.assertEqual(surely(TOWN, 0, "home", "aa", age=8, patience=40), ("breaks", ()))

    def test_no_way(self):
        self.assertEqual(latest(CLOSED, 0, "home", "news", age=8, patience=12, lost=2), (12, ()))
        self.assertEqual(surely(CLOSED, 0, "home", "news", age=8, patience=12, lost=2), ("breaks", ()))

    def test_the_bounds_of_patience(self):
        self.assertEqual(latest(TOWN, 0, "home", "news", age=8, patience=1, lost=2), (1, ()))
        self.assertEqual(latest(TOWN, 0, "home", "news", age=0, patience=40, lost=0), (40, ()))


class TestByTryingAll(unittest.TestCase):
    def test_one_plan(self):
        chance = random.Random(1)
        for turn in range(20):
            for most, patience in ((0, 16), (1, 16), (2, 9)):
                plan, wish = chance_case(chance, patience, turn % 4 > 0)
                answers = plain_answers(plan, wish, most)
                told = calls(plan, wish, lost=most)
                self.assertEqual(told, [plain_latest(answers), plain_surely(answers)], (turn, most))

    def test_two_plans(self):
        chance, parted = random.Random(2), []
        for turn in range(40):
            most = turn % 3
            plan, wish = chance_case(chance, 16 if most < 2 else 9, True)
            other = other_plan(chance, plan)
            told, others = plain_answers(plan, wish, most), plain_answers(other, wish, most)
            unlike = [
                weather for weather in set(told) | set(others)
                if whole_run(plan, wish, weather)[0] != whole_run(other, wish, weather)[0]
            ]
            due = plain_first(unlike) if unlike else None
            door, name, page, age, patience = wish
            found = first_parting(plan, other, door, name, page, age=age, patience=patience, lost=most)
            self.assertEqual(found, due, turn)
            parted.append(due)
        self.assertIn(None, parted)
        self.assertIn((), parted)
        self.assertIn(1, [len(weather) for weather in parted if weather is not None])


class TestFirstParting(unittest.TestCase):
    def part(self, plan, other, patience=40, **more):
        return first_parting(plan, other, 0, "home", "news", age=8, patience=patience, **more)

    def test_none(self):
        for many in (0, 1, 2):
            self.assertIsNone(self.part(TOWN, TOWN, lost=many))
            # The other name and the other house's page are not asked for.
            self.assertIsNone(self.part(TOWN, put_in(TOWN, (3, 2, 2), "uvw"), lost=many))
            self.assertIsNone(self.part(TOWN, put_in(TOWN, (2, 1, 2), 5), lost=many))

    def test_weathers_of_one_case_alone(self):
        # No letter comes, but the one plan sends many more of them.
        for plan, other in itertools.permutations((put_in(CLOSED, (4, 1), 1), put_in(CLOSED, (4, 1), 40))):
            for many in (0, 1, 2):
                self.assertIsNone(self.part(plan, other, 12, lost=many))

    def test_with_no_lost_letter(self):
        for many in (0, 1, 2):
            self.assertEqual(self.part(TOWN, put_in(TOWN, (3, 0, 2), "abd"), lost=many), ())
            self.assertEqual(self.part(TOWN, put_in(TOWN, (1, 0, 2), 2), lost=many), ())
            self.assertEqual(self.part(CLOSED, TOWN, lost=many), ())
        self.assertEqual(self.part(TOWN, put_in(TOWN, (3, 0, 2), "abd")), ())

    def test_with_one_lost_letter(self):
        longer = put_in(TOWN, (4, 1), 7)
        self.assertIsNone(self.part(TOWN, longer, lost=0))
        self.assertEqual(self.part(TOWN, longer, lost=1), lost(0))
        self.assertEqual(self.part(TOWN, longer), lost(0))
        self.assertEqual(self.part(TOWN, longer, lost=2), lost(0))

    def test_with_two_lost_letters(self):
        # Where the piece 1 is asked for at 6, 11 and 16 the page is 18 moments old when the name is known anew.
        plan, other = put_in(TOWN, (3, 0, 3), 17), put_in(TOWN, (3, 0, 3), 18)
        for one, two in itertools.permutations((plan, other)):
            told = [first_parting(one, two, 0, "home", "news", age=30, patience=40, lost=many) for many in range(3)]
            self.assertEqual(told, [None, None, lost(4, 5)])
            self.assertIsNone(first_parting(one, two, 0, "home", "news", age=30, patience=40))

    def test_either_order(self):
        for path, part in (((4, 1), 7), ((4, 2), 3), ((1, 0, 2), 4), ((3, 0, 3), 3), ((2, 0, 2), 7)):
            other = put_in(TOWN, path, part)
            for many in (0, 1, 2):
                self.assertEqual(self.part(TOWN, other, lost=many), self.part(other, TOWN, lost=many))


class TestRefusals(unittest.TestCase):
    def each(self, plan=TOWN, door=0, name="home", page="news", **more):
        """What the three refuse it with; of first_parting both plans are this one."""
        told = {"age": 8, "patience": 12, "lost": 0, **more}
        found = {error_of(call, plan, door, name, page, **told) for call in (latest, surely)}
        found.add(error_of(first_parting, plan, plan, door, name, page, **told))
        self.assertEqual(len(found), 1, repr((plan, door, name, page, more))[:300])
        return found.pop()

    def test_none(self):
        self.assertIsNone(self.each())
        for age, patience, many in itertools.product((0, 99), (1, 40), (0, 1, 2)):
            if patience == 1 or many < 2:
                self.assertIsNone(self.each(age=age, patience=patience, lost=many))

    def test_each(self):
        for plan in THINGS + STRANGE_THINGS + [TOWN[:4], list(TOWN)]:
            self.assertIs(self.each(plan=plan), NoPlan)
        for door in no_wholes(0, 4) + [1, 2, 3]:
            self.assertIs(self.each(door=door), NoDoor)
        for word in NO_WORDS:
            self.assertIs(self.each(name=word), NoName)
            self.assertIs(self.each(page=word), NoPage)
        for age in no_wholes(0, 99):
            self.assertIs(self.each(age=age), NoNumber)
        for patience in no_wholes(1, 40) + [41, 200]:
            self.assertIs(self.each(patience=patience), NoNumber)
        for many in no_wholes(0, 2):
            self.assertIs(self.each(lost=many), NoNumber)

    def test_their_order(self):
        parts = (
            ("plan", TOWN, None, NoPlan), ("door", 0, 1, NoDoor), ("name", "home", "", NoName),
            ("page", "news", None, NoPage), ("age", 8, -1, NoNumber), ("patience", 3, 41, NoNumber),
            ("lost", 0, 3, NoNumber),
        )
        for wrong in itertools.product((False, True), repeat=len(parts)):
            told = {part[0]: part[2] if flag else part[1] for part, flag in zip(parts, wrong)}
            dues = [part[3] for part, flag in zip(parts, wrong) if flag]
            self.assertIs(self.each(**told), dues[0] if dues else None)

    def test_two_plans(self):
        # 1 is a door in SMALL and the book in TOWN; 0 is a door in TOWN and a house in SMALL.
        told = {"age": 8, "patience": 12}
        self.assertIs(error_of(first_parting, None, TOWN, 0, "home", "news", **told), NoPlan)
        self.assertIs(error_of(first_parting, TOWN, None, 0, "home", "news", **told), NoPlan)
        self.assertIs(error_of(first_parting, TOWN, None, 1, None, None, age=-1, patience=0), NoPlan)
        for plan, other in itertools.permutations((SMALL, TOWN)):
            for door in (0, 1):
                self.assertIs(error_of(first_parting, plan, other, door, "home", "news", **told), NoDoor)
                self.assertIs(error_of(first_parting, plan, other, door, None, None, age=-1, patience=0), NoDoor)


class TestArguments(unittest.TestCase):
    def test_by_their_names(self):
        told = {"door": 0, "name": "home", "page": "news", "age": 8, "patience": 12, "lost": 0}
        self.assertEqual(latest(**told, plan=TOWN), (10, ()))
        self.assertEqual(surely(**told, plan=TOWN), ("surely", 10))
        self.assertIsNone(first_parting(**told, other=TOWN, plan=TOWN))

    def test_by_their_names_alone(self):
        for call, plans in ((latest, (TOWN,)), (surely, (TOWN,)), (first_parting, (TOWN, TOWN))):
            self.assertRaises(TypeError, lambda: call(*plans, 0, "home", "news", 8, 12))
            self.assertRaises(TypeError, lambda: call(*plans, 0, "home", "news", 8, patience=12))
            self.assertRaises(TypeError, lambda: call(*plans, 0, "home", "news", age=8))
            self.assertRaises(TypeError, lambda: call(*plans, 0, "home", "news", patience=8))

    def test_what_is_handed_in_is_not_changed(self):
        for thing in THINGS:
            kept = copy.deepcopy(thing)
            for call in (latest, surely):
                error_of(call, thing, thing, thing, thing, age=thing, patience=thing, lost=thing)
                error_of(call, TOWN, 0, "home", "news", age=thing, patience=12, lost=thing)
            error_of(first_parting, TOWN, TOWN, 0, thing, thing, age=thing, patience=thing, lost=thing)
            self.assertEqual(repr(thing), repr(kept))

    def test_asked_again(self):
        wish = (4, "shop", "news", 9, 30)
        self.assertEqual(calls(TOWN, wish), calls(TOWN, wish))


if __name__ == "__main__":
    unittest.main()
