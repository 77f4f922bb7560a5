"""may, where both pieces are there: which bends may be."""

import random
import unittest

from glassbend.bending import may
from tests.reference import corner, drawing, may_be


class BendCase(unittest.TestCase):
    def assert_bend(self, t, i, j, c, d, answer):
        self.assertEqual(may(c, d, i, j, t), [answer], (i, j, c, d))
        self.assertEqual(may(c, d, j, i, t), [answer], (j, i, c, d))

    def assert_corner(self, u, v, c, d, answer):
        self.assertEqual(may_be(u, v, c, d), answer, "the test's own numbers")
        self.assert_bend(corner(u, v), 0, 1, c, d, answer)


class OrdinaryDrawings(BendCase):
    def test_pieces_of_one_stroke(self):
        t = drawing([(0, 0), (10, 0), (10, 10), (20, 10), (30, 10)])
        self.assert_bend(t, 0, 1, 0, 1, 1)
        self.assert_bend(t, 0, 1, -1, 1000, 0)
        self.assert_bend(t, 2, 3, -1, 1, 1)
        self.assert_bend(t, 0, 2, 1, 1, -5)

    def test_a_stroke_that_comes_back_to_its_first_point(self):
        t = drawing([(0, 0), (10, 0), (10, 10), (0, 0)])
        self.assert_bend(t, 0, 1, 0, 1, 1)
        self.assert_bend(t, 0, 2, 707, 1000, 0)
        self.assert_bend(t, 0, 2, 708, 1000, 1)
        self.assert_bend(t, 1, 2, 707, 1000, 0)
        self.assert_bend(t, 1, 2, 708, 1000, 1)

    def test_strokes_that_meet_at_first_and_second_ends(self):
        joint = (50, 50)
        for u, v in [((20, 0), (0, 30)), ((20, 0), (-7, 1)), ((3, 4), (5, 1)), ((-9, -9), (9, 9))]:
            one = (50 + u[0], 50 + u[1])
            other = (50 + v[0], 50 + v[1])
            for first in ([joint, one], [one, joint]):
                for second in ([joint, other], [other, joint]):
                    t = drawing(first, second)
                    for c in range(-10, 11):
                        self.assert_bend(t, 0, 1, c, 10, may_be(u, v, c, 10))

    def test_pieces_are_numbered_stroke_by_stroke(self):
        t = drawing([(0, 0), (10, 0), (20, 10)], [(20, 10), (20, 20), (30, 20)], [(10, 0), (10, 5)])
        meeting = {(0, 1): (-8, -7), (1, 2): (-8, -7), (2, 3): (-1, 0), (0, 4): (-1, 0), (1, 4): (7, 8)}
        for i in range(5):
            for j in range(i):
                if (j, i) in meeting:
                    below, enough = meeting[(j, i)]
                    self.assert_bend(t, i, j, below, 10, 0)
                    self.assert_bend(t, i, j, enough, 10, 1)
                else:
                    self.assert_bend(t, i, j, 1, 1, -5)

    def test_all_bends_at_a_joint_of_eight_pieces(self):
        ways = [(7, 0), (5, 5), (0, 3), (-2, 2), (-9, 0), (-1, -1), (0, -4), (6, -6)]
        t = drawing(*[[(20, 20), (20 + x, 20 + y)] for x, y in ways])
        for i in range(8):
            for j in range(i):
                for c in (-1000, -708, -707, -1, 0, 1, 707, 708, 1000):
                    self.assert_bend(t, i, j, c, 1000, may_be(ways[i], ways[j], c, 1000))


class Exactness(BendCase):
    def test_straight_on_may_always_be(self):
        for u, v in [((1, 0), (-9, 0)), ((0, 7), (0, -2)), ((1, 3), (-2, -6)), ((-117, 91), (1161, -903))]:
            for d in (1, 2, 7, 999, 1000):
                for c in (-d, 1 - d, 0, d):
                    self.assert_corner(u, v, c, d, 1)

    def test_nearly_straight_on_is_not_straight_on(self):
        for u, v in [((1, 0), (-4000, 1)), ((2047, 2046), (-2046, -2045)), ((-2047, 2046), (2046, -2045))]:
            for d in (1, 2, 999, 1000):
                self.assert_corner(u, v, -d, d, 0)
            self.assert_corner(u, v, -999, 1000, 1)

    def test_a_right_angle(self):
        for u, v in [((1, 0), (0, 1)), ((0, -3), (8, 0)), ((3, 4), (-4, 3)), ((1000, 999), (1998, -2000))]:
            for d in (1, 2, 1000):
                self.assert_corner(u, v, 0, d, 1)
                self.assert_corner(u, v, -1, d, 0)
                self.assert_corner(u, v, 1, d, 1)

    def test_beside_a_right_angle(self):
        self.assert_corner((4095, 0), (1, 4095), 0, 1, 0)
        self.assert_corner((4095, 0), (1, 4095), 1, 1000, 1)
        self.assert_corner((4094, 0), (-1, 4095), 0, 1, 1)
        self.assert_corner((4094, 0), (-1, 4095), -1, 1000, 0)

    def test_blunt_and_sharp_angles_by_limits_of_each_sign(self):
        sharp, blunt = ((1, 0), (1, 1)), ((1, 0), (-1, 1))
        for c, by_sharp, by_blunt in [(-1000, 0, 0), (-708, 0, 0), (-707, 0, 1), (-1, 0, 1), (0, 0, 1),
                                      (1, 0, 1), (707, 0, 1), (708, 1, 1), (1000, 1, 1)]:
            self.assert_corner(*sharp, c, 1000, by_sharp)
            self.assert_corner(*blunt, c, 1000, by_blunt)

    def test_a_cosine_that_is_just_the_limit(self):
        for u, v, c, d in [((3, 4), (5, 0), 3, 5), ((1, 1), (7, 1), 4, 5), ((1, -34), (31, 14), -5, 13),
                           ((1, -19), (19, -1), 19, 181), ((1, -17), (11, 13), -21, 29),
                           ((2457, 3276), (4095, 0), 3, 5), ((-1911, 2548), (1, 0), -3, 5)]:
            self.assert_corner(u, v, c, d, 1)
            scale = 1000 // d
            self.assert_corner(u, v, c * scale, d * scale, 1)
            self.assert_corner(u, v, c * scale - 1, d * scale, 0)
            self.assert_corner(u, v, c * scale + 1, d * scale, 1)

    def test_just_beside_the_limit_where_the_root_is_no_whole_number(self):
        for v, answer in [((2457, 3277), 1), ((2457, 3275), 0), ((2456, 3276), 1), ((2458, 3276), 0)]:
            self.assert_corner((4095, 0), v, 3, 5, answer)
        # Half of a root that whole numbers come near to: 1351 * 1351 is 3 * 780 * 780 + 1.
        self.assert_corner((1, 0), (780, 1351), 1, 2, 1)
        self.assert_corner((1, 0), (571, 989), 1, 2, 0)
        self.assert_corner((1, 0), (-780, 1351), -1, 2, 0)
        self.assert_corner((1, 0), (-571, 989), -1, 2, 1)

    def test_any_bend_by_one(self):
        for u, v in [((4095, 4094), (4094, 4093)), ((4095, 1), (4095, 0)), ((1, 2), (2, 1)), ((1, 0), (-1, 0))]:
            for d in (1, 2, 1000):
                self.assert_corner(u, v, d, d, 1)
        self.assert_corner((4095, 4094), (4094, 4093), 999, 1000, 0)

    def test_small_corners_by_many_limits(self):
        ways = [(x, y) for x in range(-3, 4) for y in range(-3, 4) if (x, y) != (0, 0)]
        limits = [(c, d) for d in (1, 2, 3, 5, 10) for c in range(-d, d + 1)]
        for u in [(1, 0), (2, 1), (-3, 3), (0, -2)]:
            for v in ways:
                if u[0] * v[1] == u[1] * v[0] and u[0] * v[0] + u[1] * v[1] > 0:
                    continue
                for c, d in limits:
                    self.assert_corner(u, v, c, d, may_be(u, v, c, d))

    def test_wide_corners_by_the_limits_next_to_their_cosine(self):
        source = random.Random(20)
        for turn in range(300):
            joint, one, other = [(source.randrange(4096), source.randrange(4096)) for point in range(3)]
            u = (one[0] - joint[0], one[1] - joint[1])
            v = (other[0] - joint[0], other[1] - joint[1])
            if u[0] * v[1] == u[1] * v[0]:
                continue
            d = source.randint(1, 1000)
            t = drawing([one, joint, other])
            least = min(c for c in range(-d, d + 1) if may_be(u, v, c, d))
            self.assert_bend(t, 0, 1, least, d, 1)
            if least > -d:
                self.assert_bend(t, 0, 1, least - 1, d, 0)


if __name__ == "__main__":
    unittest.main()
