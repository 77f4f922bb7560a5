"""The program as a whole: its interface, that its calls fit together, and that each stands by itself."""

import inspect
import random
import unittest

from glassbend.bending import angle, fewest, judge, may, tubes
from tests.reference import Guarded, drawing, plan_with, random_pieces, random_plan, row, text

OPEN = drawing([(0, 0), (10, 0), (10, 10)], [(20, 20), (30, 20)])
CORNER = drawing([(5, 5), (0, 0), (5, 0)])
RING = row((10, 10), (20, 5), (20, 15), (10, 10)) + row((10, 10), (0, 10))
MANY = drawing([(k, k % 2) for k in range(15)])
LONG = OPEN + [10] * 65536
TEXTS = [OPEN, CORNER, drawing(*RING), MANY, LONG, text("sign Probe\n"), []]
PLANS = [[255, 1, 0, 255, 255, 255], [255] * 6, [255, 1, 0, 255], [1, 255, 255, 0], [255] * 4, [], [0] * 6,
         [255, 1, 255, 255], plan_with(RING, (0, 1), (1, 2), (2, 0)), plan_with(RING, (3, 0), (0, 1)), [255] * 28]
LIMITS = [(0, 1), (1, 1), (-1, 1), (1, 0)]


def calls():
    """Calls of each kind, each a function and what is handed in to it."""
    made = []
    for c, d in LIMITS:
        for t in TEXTS:
            made += [(may, c, d, i, j, t) for i, j in [(0, 1), (1, 0), (0, 2), (1, 1), (9, 0)]]
            made += [(judge, c, d, t, plan) for plan in PLANS]
            made.append((fewest, c, d, t))
        for u, v in [((3, 4), (4, 3)), ((1, 0), (-1, 0)), ((0, 0), (1, 0)), ((4096, 1), (1, 1)), ((1, 0), (0, 1))]:
            made.append((angle, *u, *v, c, d))
    for t in TEXTS:
        made += [(tubes, t, plan) for plan in PLANS]
    return made


def answer(call):
    return call[0](*call[1:])


class Interface(unittest.TestCase):
    def test_names_and_order(self):
        for function, names in [(may, "c d i j t"), (judge, "c d t plan"), (tubes, "t plan"), (fewest, "c d t"),
                                (angle, "x y z w c d")]:
            self.assertEqual(list(inspect.signature(function).parameters), names.split())
            self.assertEqual(function.__module__, "glassbend.bending")

    def test_calls_by_names(self):
        bent = [255, 1, 0, 255, 255, 255]
        self.assertEqual(may(t=OPEN, j=1, i=0, d=1, c=0), [1])
        self.assertEqual(judge(plan=bent, t=OPEN, d=1, c=0), [2])
        self.assertEqual(tubes(plan=bent, t=OPEN), [2, 2, 0, 0, 0, 1, 0, 1, 0, 2, 0])
        self.assertEqual(fewest(t=OPEN, d=1, c=0), [2] + bent)
        self.assertEqual(angle(d=1, c=0, w=1, z=0, y=0, x=1), [1])


class CallsByThemselves(unittest.TestCase):
    CALLS = calls()

    def test_what_is_handed_in_stays_as_it_was(self):
        for call in self.CALLS:
            guarded = [Guarded(value) if isinstance(value, list) else value for value in call]
            answer(guarded)
            self.assertEqual(guarded, list(call))

    def test_what_is_given_back_is_a_new_list_of_whole_numbers(self):
        for call in self.CALLS:
            given = answer(call)
            self.assertIs(type(given), list)
            self.assertEqual({type(number) for number in given}, {int})
            kept = list(given)
            given.append(77)
            given[0] = 78
            self.assertEqual(answer(call), kept)

    def test_the_same_whatever_was_called_before(self):
        alone = [answer(call) for call in self.CALLS]
        self.assertEqual([answer(call) for call in reversed(self.CALLS)], alone[::-1])
        order = list(range(len(alone)))
        for seed in range(2):
            random.Random(seed).shuffle(order)
            for k in order:
                self.assertEqual(answer(self.CALLS[k]), alone[k])

    def test_answers_of_each_kind_are_among_them(self):
        firsts = {(call[0].__name__, answer(call)[0]) for call in self.CALLS}
        for name, numbers in [("may", [1, 0, -1, -2, -4, -5, -6]), ("judge", [1, 2, 3, -1, -2, -6, -9]),
                              ("tubes", [1, 2, 3, -2, -6, -9]), ("fewest", [1, 2, 3, -1, -2, -6, -8]),
                              ("angle", [0, 1, 2])]:
            self.assertLessEqual({(name, number) for number in numbers}, firsts)


class CallsTogether(unittest.TestCase):
    def drawings(self, seed, count):
        source = random.Random(seed)
        for turn in range(count):
            pieces = random_pieces(source, source.randint(1, 18), source.randint(2, 6))
            d = source.choice([1, 2, 5, 1000])
            yield source, pieces, drawing(*pieces), source.randint(-d, d), d

    def test_judge_and_tubes_take_each_plan_that_fewest_finds(self):
        found = 0
        for source, pieces, t, c, d in self.drawings(13, 200):
            given = fewest(c, d, t)
            if given != [-8]:
                found += 1
                self.assertEqual(judge(c, d, t, given[1:]), given[:1])
                self.assertEqual(judge(1, 1, t, given[1:]), given[:1])
                self.assertEqual(tubes(t, given[1:])[:1], given[:1])
        self.assertGreater(found, 100)

    def test_no_right_plan_has_fewer_tubes_than_the_one_found(self):
        for source, pieces, t, c, d in self.drawings(14, 100):
            given = fewest(c, d, t)
            if given != [-8]:
                for turn in range(5):
                    plan = random_plan(source, pieces, c, d)
                    self.assertLessEqual(given, judge(c, d, t, plan) + plan)

    def test_tubes_tells_as_many_as_judge_counts(self):
        for source, pieces, t, c, d in self.drawings(15, 200):
            plan = random_plan(source, pieces, c, d)
            self.assertEqual(tubes(t, plan)[:1], judge(c, d, t, plan))

    def test_judge_takes_a_pair_just_if_may_does(self):
        for source, pieces, t, c, d in self.drawings(16, 60):
            i, j = source.randrange(len(pieces)), source.randrange(len(pieces))
            told = may(c, d, i, j, t)
            if told in ([0], [1]):
                judged = judge(c, d, t, plan_with(pieces, (i, j)))
                self.assertEqual(judged[:2], [len(pieces) - 1] if told == [1] else [-9, 5])


if __name__ == "__main__":
    unittest.main()
