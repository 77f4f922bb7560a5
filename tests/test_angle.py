"""angle: which angle has a cosine of the limit or less, and when the answer is 2."""

import random
import unittest

from glassbend.bending import angle, may
from tests.reference import corner, drawing, may_be, random_pieces

EDGE = 4095
OUTSIDE = [-2 ** 31, -2 ** 31 + 1, -65536, -4097, -4096, 4096, 4097, 65536, 2 ** 31 - 2, 2 ** 31 - 1]
LIMITS = [(c, d) for d in (1, 2, 5, 1000) for c in sorted({-d, 1 - d, -d // 2, -1, 0, 1, d // 2, d - 1, d})]


class AngleCase(unittest.TestCase):
    def assert_angle(self, u, v, c, d, answer):
        self.assertEqual(may_be(u, v, c, d), answer, "the test's own numbers")
        self.assertEqual(angle(*u, *v, c, d), [answer], (u, v, c, d))
        self.assertEqual(angle(*v, *u, c, d), [answer], (v, u, c, d))

    def assert_least(self, u, v, least, d):
        """That the least c of a limit c / d by which the bend may be is this one."""
        self.assert_angle(u, v, least, d, 1)
        self.assert_angle(u, v, min(least + 1, d), d, 1)
        self.assert_angle(u, v, d, d, 1)
        if least > -d:
            self.assert_angle(u, v, least - 1, d, 0)
            self.assert_angle(u, v, -d, d, 0)


class Angles(AngleCase):
    def test_right_ones(self):
        for u, v in [((1, 0), (0, 1)), ((0, -3), (8, 0)), ((3, 4), (-4, 3)), ((EDGE, EDGE), (EDGE, -EDGE)),
                     ((EDGE, 4094), (-4094, EDGE))]:
            for d in (1, 2, 999, 1000):
                self.assert_least(u, v, 0, d)

    def test_sharp_and_blunt_ones(self):
        self.assert_least((1, 0), (1, 1), 708, 1000)
        self.assert_least((1, 0), (-1, 1), -707, 1000)
        self.assert_least((5, 1), (-1, -5), -384, 1000)
        self.assert_least((5, 1), (1, 5), 385, 1000)
        self.assert_least((1, 0), (-780, 1351), -499, 1000)
        for c in (-1, 0):
            self.assert_angle((1, 0), (1, 1), c, 1, 0)
        for c in (0, 1):
            self.assert_angle((1, 0), (-1, 1), c, 1, 1)

    def test_straight_on_by_every_limit(self):
        for u, v in [((1, 0), (-9, 0)), ((0, 7), (0, -2)), ((1, 3), (-2, -6)), ((EDGE, -EDGE), (-EDGE, EDGE)),
                     ((-117, 91), (1161, -903)), ((EDGE, 1), (-EDGE, -1))]:
            for d in (1, 2, 3, 999, 1000):
                for c in range(-d, d + 1):
                    self.assertEqual(angle(*u, *v, c, d), [1])

    def test_nearly_straight_on(self):
        for u, v in [((1, 0), (-EDGE, 1)), ((EDGE, 4094), (-4094, -4093)), ((EDGE, EDGE), (-EDGE, -4094))]:
            self.assert_least(u, v, -999, 1000)
            self.assert_least(u, v, 0, 1)

    def test_the_same_way(self):
        for u, v in [((1, 0), (9, 0)), ((0, -7), (0, -7)), ((1, 3), (2, 6)), ((EDGE, EDGE), (EDGE, EDGE)),
                     ((-EDGE, EDGE), (-1, 1))]:
            for d in (1, 2, 999, 1000):
                self.assert_least(u, v, d, d)
            self.assert_angle(u, v, 999, 1000, 0)
            self.assert_angle(u, v, 1, 1, 1)

    def test_nearly_the_same_way(self):
        for u, v in [((1, 0), (EDGE, 1)), ((EDGE, 4094), (4094, 4093)), ((EDGE, EDGE), (EDGE, 4094))]:
            self.assert_least(u, v, 1000, 1000)
            self.assert_least(u, v, 1, 1)


class Exactness(AngleCase):
    def test_a_cosine_that_is_just_the_limit(self):
        for u, v, c, d in [((3, 4), (4, 3), 24, 25), ((3, 4), (-4, -3), -24, 25), ((3, 4), (5, 0), 3, 5),
                           ((-3, 4), (1, 0), -3, 5), ((1, 1), (7, 1), 4, 5), ((1, -34), (31, 14), -5, 13),
                           ((1, -19), (19, -1), 19, 181), ((2457, 3276), (3276, 2457), 24, 25),
                           ((-3276, 2457), (EDGE, 0), -4, 5), ((0, EDGE), (-3276, 2457), 3, 5)]:
            scale = 1000 // d
            for k in (1, scale):
                self.assert_least(u, v, c * k, d * k)

    def test_just_beside_it(self):
        for v, answer in [((2457, 3277), 1), ((2457, 3275), 0), ((2456, 3276), 1), ((2458, 3276), 0)]:
            self.assert_angle((EDGE, 0), v, 3, 5, answer)
        for v, answer in [((3276, 2457), 1), ((3276, 2458), 0), ((3277, 2457), 1), ((3275, 2457), 0)]:
            self.assert_angle((2457, 3276), v, 24, 25, answer)
        # Half of a root that whole numbers come near to: 1351 * 1351 is 3 * 780 * 780 + 1.
        self.assert_angle((1, 0), (780, 1351), 1, 2, 1)
        self.assert_angle((1, 0), (571, 989), 1, 2, 0)
        self.assert_angle((1, 0), (-780, 1351), -1, 2, 0)
        self.assert_angle((1, 0), (-571, 989), -1, 2, 1)

    def test_small_ways_by_many_limits(self):
        ways = [(x, y) for x in range(-3, 4) for y in range(-3, 4) if (x, y) != (0, 0)]
        for u in ways:
            for v in ways:
                for c, d in LIMITS:
                    self.assert_angle(u, v, c, d, may_be(u, v, c, d))

    def test_wide_ways_by_the_limits_next_to_their_cosine(self):
        source = random.Random(11)
        for turn in range(400):
            u, v = [(source.randint(-EDGE, EDGE), source.randint(-EDGE, EDGE)) for way in range(2)]
            if (0, 0) in (u, v):
                continue
            d = source.randint(1, 1000)
            self.assert_least(u, v, min(c for c in range(-d, d + 1) if may_be(u, v, c, d)), d)

    def test_as_may_tells(self):
        for u, v in [((5, 0), (0, 5)), ((5, 1), (3, 4)), ((-2, 9), (9, -2)), ((3, 4), (4, 3)), ((1, 0), (-1, 0)),
                     ((4095, 4094), (4094, 4093)), ((1, 0), (571, 989)), ((-2047, 2046), (2046, -2045))]:
            t = corner(u, v)
            for c, d in LIMITS:
                self.assertEqual(angle(*u, *v, c, d), may(c, d, 0, 1, t), (u, v, c, d))
        source = random.Random(12)
        for turn in range(30):
            pieces = random_pieces(source, 12, 4)
            t = drawing(*pieces)
            for i, j in [(source.randrange(len(pieces)), source.randrange(len(pieces))) for pair in range(8)]:
                shared = set(pieces[i]) & set(pieces[j])
                if i == j or not shared:
                    continue
                joint = shared.pop()
                ways = []
                for piece in (pieces[i], pieces[j]):
                    far = piece[piece[0] == joint]
                    ways += [far[0] - joint[0], far[1] - joint[1]]
                for c, d in LIMITS:
                    self.assertEqual(angle(*ways, c, d), may(c, d, i, j, t))


class TheAnswerTwo(unittest.TestCase):
    def assert_answer(self, answer, *numbers):
        self.assertEqual(angle(*numbers), [answer], numbers)

    def test_a_way_that_is_none(self):
        for c, d in LIMITS + [(2, 1), (0, 0)]:
            for u in [(1, 0), (0, -1), (EDGE, EDGE), (0, 0), (4096, 0)]:
                self.assert_answer(2, 0, 0, *u, c, d)
                self.assert_answer(2, *u, 0, 0, c, d)

    def test_a_single_zero(self):
        for u in [(1, 0), (0, 1), (-1, 0), (0, -1), (EDGE, 0), (0, -EDGE)]:
            self.assert_answer(1, *u, 5, 5, 1, 1)
            self.assert_answer(1, 5, 5, *u, 1, 1)

    def test_coordinates(self):
        for k in range(4):
            for number in OUTSIDE + [-EDGE, -4094, -1, 0, 1, 4094, EDGE]:
                numbers = [3, -4, -5, 2]
                numbers[k] = number
                answer = 2 if number in OUTSIDE else may_be(numbers[:2], numbers[2:], 0, 1)
                self.assert_answer(answer, *numbers, 0, 1)
                self.assert_answer(2 if number in OUTSIDE else 1, *numbers, 1, 1)
        for number in OUTSIDE:
            self.assert_answer(2, number, number, number, number, 1, 1)
            self.assert_answer(2, number, 0, -1, 0, -1, 1)

    def test_d(self):
        for d, is_one in [(0, False), (1, True), (2, True), (999, True), (1000, True), (1001, False), (2 ** 31, False),
                          (2 ** 32 - 1, False)]:
            self.assert_answer(1 if is_one else 2, 1, 0, 0, 1, 0, d)
            self.assert_answer(1 if is_one else 2, 1, 0, 0, 1, 1, d)
            self.assert_answer(0 if is_one else 2, 1, 0, 0, 1, -1, d)

    def test_c(self):
        for d in (1, 2, 10, 999, 1000):
            self.assert_answer(2, 1, 0, 0, 1, -d - 1, d)
            self.assert_answer(0, 1, 0, 0, 1, -d, d)
            self.assert_answer(1, 1, 0, 0, 1, d, d)
            self.assert_answer(2, 1, 0, 0, 1, d + 1, d)
            self.assert_answer(2, 1, 0, 0, 1, -2 ** 31, d)
            self.assert_answer(2, 1, 0, 0, 1, 2 ** 31 - 1, d)
            # Straight on, and the same way, are no answers by what is no limit.
            self.assert_answer(2, 1, 0, -1, 0, -d - 1, d)
            self.assert_answer(2, 1, 0, 1, 0, d + 1, d)

    def test_nothing_is_a_limit_by_a_wrong_d(self):
        for c in (-2 ** 31, -1001, -1000, -1, 0, 1, 1000, 1001, 2 ** 31 - 1):
            for d in (0, 1001, 2 ** 32 - 1):
                self.assert_answer(2, 1, 0, 0, 1, c, d)


if __name__ == "__main__":
    unittest.main()
