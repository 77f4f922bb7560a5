"""fewest: the plan found, and which drawings have too many ways."""

import math
import random
import unittest

from glassbend.bending import fewest, judge
from tests.reference import (count_tubes, count_ways, drawing, ends_of, fault, least_of, parts_of, plan_with,
                             plans_by_joint, random_pieces, right_plans, row, star, turned)

COMPASS = [(5, 0), (5, 5), (0, 5), (-5, 5), (-5, 0), (-5, -5), (0, -5), (5, -5)]
CROSS = COMPASS[::2]
SQUARE = row((0, 0), (10, 0), (10, 10), (0, 10), (0, 0))
TRIANGLE = row((20, 0), (30, 0), (20, 10), (20, 0))
BOW = row((10, 10), (20, 5), (20, 15), (10, 10), (0, 5), (0, 15), (10, 10))
# Ways from a joint, by how many ways to go on they have by the limit 0 / 1.
BY_RIGHT_ANGLES = {
    41: [(2, -3), (-1, 1), (-1, -3), (-3, -2), (3, -1), (-2, -1), (-1, -2)],
    10: CROSS,
    64: [(-1, 0), (-1, -2), (-1, -1), (-2, -3), (0, -1), (3, 2), (1, 0), (-1, -3)],
    8: [(0, -5), (1, 5), (-1, 5), (2, 5), (-2, 5), (3, 5), (-3, 5), (0, 5)],
    2: [(1, 0), (0, 1)],
}


def stars(*lists):
    """A drawing with one star for each list of ways, side by side."""
    pieces = []
    for k, ways in enumerate(lists):
        pieces += star(*ways, middle=(20 * k + 20, 20))
    return pieces


def lonely(count):
    """Pieces that meet no others, far from the other drawings here."""
    return [((k, 1000), (k, 1010)) for k in range(count)]


def zigzag(count):
    return row(*[(7 * k, 7 * (k % 2)) for k in range(count + 1)])


class FewestCase(unittest.TestCase):
    def assert_found(self, pieces, limit, count, *pairs):
        """That the plan found is the one with these pairs."""
        self.assertEqual(fewest(*limit, drawing(*pieces)), [count, *plan_with(pieces, *pairs)], (pieces, limit))
        self.check(pieces, limit)

    def assert_refused(self, pieces, limit=(1, 1)):
        self.assertGreater(count_ways(pieces, *limit), 4096, "the test's own count")
        self.assertEqual(fewest(*limit, drawing(*pieces)), [-8])

    def check(self, pieces, limit):
        """That the answer is a right plan and how many tubes it has."""
        answer = fewest(*limit, drawing(*pieces))
        self.assertIsNone(fault(pieces, answer[1:], *limit))
        self.assertEqual(answer[0], count_tubes(answer[1:]))
        self.assertEqual(judge(*limit, drawing(*pieces), answer[1:]), answer[:1])
        return answer


class OrdinaryDrawings(FewestCase):
    def test_a_piece_alone(self):
        for limit in [(1, 1), (0, 1), (-1, 1)]:
            self.assert_found([((3, 4), (5, 6))], limit, 1)

    def test_two_pieces(self):
        for numbers in [(), (0,), (1,), (0, 1)]:
            pieces = turned(row((0, 0), (9, 0), (9, 9)), *numbers)
            for limit in [(0, 1), (1, 1000), (1, 1)]:
                self.assert_found(pieces, limit, 1, (0, 1))
            for limit in [(-1, 1000), (-1, 1)]:
                self.assert_found(pieces, limit, 2)
        self.assert_found([((0, 0), (1, 0)), ((2, 0), (3, 0))], (1, 1), 2)

    def test_two_pieces_at_the_limit(self):
        for u, v, c, d in [((3, 4), (5, 0), 3, 5), ((3, 4), (4, 3), 24, 25), ((-3, 4), (5, 0), -3, 5)]:
            self.assert_found(star(u, v), (c, d), 1, (0, 1))
            self.assert_found(star(u, v), (40 * c - 1, 40 * d), 2)
        self.assert_found(star((1, 0), (780, 1351)), (1, 2), 1, (0, 1))
        self.assert_found(star((1, 0), (571, 989)), (1, 2), 2)
        self.assert_found(star((1, 2), (-3, -6)), (-1, 1), 1, (0, 1))

    def test_where_nothing_may_be_bent(self):
        self.assert_found(zigzag(10), (-1, 1000), 10)
        self.assert_found(SQUARE, (-1, 2), 4)
        self.assert_found(TRIANGLE, (-1, 1000), 3)
        self.assert_found(star((9, 0), (9, 1), (9, 2), (8, 7), (1, 9), (2, 9), (4, 9), (0, 9)), (-1, 1000), 8)
        self.assert_found(lonely(64), (1, 1), 64)

    def test_rows(self):
        for count in (3, 4, 9, 13):
            pairs = [(k, k + 1) for k in range(count - 1)]
            self.assert_found(zigzag(count), (0, 1), 1, *pairs)
            self.assert_found(turned(zigzag(count), 0, 2), (1, 1), 1, *pairs)
        pieces = row((0, 0), (10, 0), (20, 0), (20, 10), (30, 10), (40, 10))
        self.assert_found(pieces, (-1, 2), 2 + 1, (0, 1), (3, 4))

    def test_rings(self):
        self.assert_found(TRIANGLE, (1, 1), 1, (0, 1), (1, 2), (2, 0))
        self.assert_found(TRIANGLE, (0, 1), 2, (0, 2))
        self.assert_found(TRIANGLE, (707, 1000), 2, (0, 2))
        self.assert_found(SQUARE, (0, 1), 1, (0, 1), (1, 2), (2, 3), (3, 0))
        self.assert_found(BOW, (1, 1), 1, (0, 1), (1, 2), (3, 4), (4, 5), (0, 3), (2, 5))

    def test_crosses(self):
        self.assert_found(star(*CROSS), (1, 1), 2, (0, 1), (2, 3))
        self.assert_found(star(*CROSS), (0, 1), 2, (0, 1), (2, 3))
        self.assert_found(star(*CROSS), (-1, 1000), 2, (0, 2), (1, 3))
        self.assert_found(turned(star(*CROSS), 1, 2), (-1, 1), 2, (0, 2), (1, 3))

    def test_stars(self):
        for degree in range(3, 9):
            pieces = star(*COMPASS[:degree])
            pairs = [(k, k + 1) for k in range(0, degree - 1, 2)]
            self.assert_found(pieces, (1, 1), (degree + 1) // 2, *pairs)
            self.assert_found(turned(pieces, 0, 1, 4), (1, 1), (degree + 1) // 2, *pairs)
        self.assert_found(star(*COMPASS), (-1, 1), 4, (0, 4), (1, 5), (2, 6), (3, 7))
        self.assert_found(star(*COMPASS[:5]), (-1, 1), 4, (0, 4))

    def test_several_parts(self):
        pieces = TRIANGLE + lonely(2) + [((x, y + 50), (z, w + 50)) for (x, y), (z, w) in SQUARE]
        self.assert_found(pieces, (1, 1), 4, (0, 1), (1, 2), (2, 0), (5, 6), (6, 7), (7, 8), (8, 5))
        self.assert_found(stars(COMPASS[:3], [], CROSS), (1, 1), 4, (0, 1), (3, 4), (5, 6))


class TheLeastOfTheFewest(FewestCase):
    LIMITS = [(-1, 1), (-999, 1000), (-9, 10), (-708, 1000), (-707, 1000), (-1, 2), (-1, 5), (-1, 1000), (0, 1),
              (1, 1000), (1, 3), (1, 2), (707, 1000), (708, 1000), (9, 10), (999, 1000), (1, 1)]

    def test_a_piece_is_less_than_none(self):
        self.assert_found(star(*COMPASS[:3]), (1, 1), 2, (0, 1))
        self.assert_found(turned(star(*COMPASS[:3]), 0), (1, 1), 2, (0, 1))
        # A row that begins anywhere has as few tubes as the ring.
        self.assert_found(SQUARE, (1, 1), 1, (0, 1), (1, 2), (2, 3), (3, 0))

    def test_fewest_goes_ahead_of_least(self):
        # With 0 and 1 in a pair the pieces 2 and 3, which stand too sharp to one another, would both end.
        pieces = star((-5, 0), (5, 0), (5, 1), (-5, 1))
        self.assert_found(pieces, (-1, 2), 2, (0, 1), (2, 3))
        pieces = star((-5, 0), (5, 0), (-5, 1), (1, 5))
        self.assert_found(pieces, (-1, 10), 2, (0, 3), (1, 2))

    def test_the_least_where_one_joint_must_yield_to_another(self):
        # The least choices at both joints, (6, 7) at the one and (1, 2) at the other, would close a ring of 1, 2, 7, 6.
        # Either joint may yield; piece 1 comes ahead of piece 6, so it is the joint of piece 6 that does.
        one, other = (20, 20), (60, 20)
        pieces = [(one, (10, 20)), (other, (40, 30)), (other, (40, 10)), (other, (70, 30)), (other, (70, 10)),
                  (one, (10, 10)), (one, (40, 30)), (one, (40, 10)), (one, (10, 30)), (one, (20, 5))]
        pairs = [(0, 5), (1, 2), (3, 4), (1, 6), (2, 7), (6, 8), (7, 9)]
        self.assertEqual(count_ways(pieces, 1, 1), 76 * 10 * 2 * 2)
        self.assert_found(pieces, (1, 1), 3, *pairs)
        self.assert_found(turned(pieces, 0, 1, 6, 7, 9), (1, 1), 3, *pairs)

    def assert_least(self, pieces, limit, plans):
        self.assertEqual(len(plans), count_ways(pieces, *limit), "the test's own two readings")
        self.assertEqual(self.check(pieces, limit), least_of(plans), (pieces, limit))

    def test_small_drawings_against_all_right_plans(self):
        source = random.Random(7)
        tried = 0
        while tried < 150:
            pieces = random_pieces(source, source.randint(2, 7), source.randint(2, 4))
            ends = ends_of(pieces)
            if math.prod(ends.count(end) for end in ends) > 3000:
                continue
            tried += 1
            for limit in source.sample(self.LIMITS, 3):
                self.assert_least(pieces, limit, right_plans(pieces, *limit))

    def test_larger_drawings_against_all_choices_at_their_joints(self):
        source = random.Random(8)
        tried = 0
        while tried < 60:
            pieces = random_pieces(source, source.randint(6, 40), source.randint(3, 6))
            limit = source.choice(self.LIMITS)
            if count_ways(pieces, *limit) <= 600:
                tried += 1
                self.assert_least(pieces, limit, plans_by_joint(pieces, *limit))

    def test_every_star_by_every_limit(self):
        source = random.Random(9)
        for degree in (3, 4, 5, 6, 7, 8):
            pieces = turned(star(*source.sample(COMPASS, degree)), *source.sample(range(8), 4))
            for limit in self.LIMITS:
                self.assert_least(pieces, limit, plans_by_joint(pieces, *limit))


class ByAnyBend(FewestCase):
    def assert_by_degrees(self, pieces):
        ends = ends_of(pieces)
        count = 0
        for part in parts_of(pieces):
            points = {end for number in part for end in pieces[number]}
            count += max(1, len([point for point in points if ends.count(point) % 2]) // 2)
        for limit in [(1, 1), (1000, 1000)]:
            self.assertEqual(self.check(pieces, limit)[0], count, pieces)

    def test_drawings_of_one_part(self):
        for pieces in (zigzag(5), SQUARE, TRIANGLE, BOW, star(*CROSS), star(*COMPASS), star(*COMPASS[:7]),
                       SQUARE + [((0, 0), (10, 10))], SQUARE + [((10, 0), (20, 5)), ((10, 0), (20, 0))]):
            self.assertEqual(len(parts_of(pieces)), 1)
            self.assert_by_degrees(pieces)

    def test_many_drawings(self):
        source = random.Random(10)
        tried = 0
        while tried < 120:
            pieces = random_pieces(source, source.randint(2, 16), source.randint(2, 6))
            if count_ways(pieces, 1, 1) <= 4096:
                tried += 1
                self.assert_by_degrees(pieces)


class HowManyWays(FewestCase):
    def by_right_angles(self, *counts):
        pieces = stars(*[BY_RIGHT_ANGLES[count] for count in counts])
        self.assertEqual(count_ways(pieces, 0, 1), math.prod(counts), "the test's own count")
        return pieces

    def test_just_as_many_as_may_be(self):
        for pieces, tubes in [(zigzag(13), 1), (zigzag(13) + lonely(51), 52), (stars(*[COMPASS[:3]] * 6), 12),
                              (stars(*[COMPASS[:3]] * 5, *[COMPASS[:2]] * 2), 12)]:
            self.assertEqual(count_ways(pieces, 1, 1), 4096)
            self.assertEqual(self.check(pieces, (1, 1))[0], tubes)
        for counts in [(64, 64), (64, 8, 8), (8, 8, 8, 8), (64, 8, 2, 2, 2)]:
            self.check(self.by_right_angles(*counts), (0, 1))

    def test_the_next_numbers_above(self):
        # 4,097 to 4,099 are no products of what joints can have: 241, 683 and 4,099 are primes that none has.
        self.assert_refused(self.by_right_angles(41, 10, 10), (0, 1))
        # By 1 / 1 a joint has 1, 2, 4, 10, 26, 76, 232 or 764 ways: the next number is 4,160.
        pieces = stars(COMPASS[:5], CROSS, COMPASS[:3], COMPASS[:3])
        self.assertEqual(count_ways(pieces, 1, 1), 4160)
        self.assert_refused(pieces)

    def test_some_more(self):
        for counts in [(64, 64, 2), (64, 41, 2), (8, 8, 8, 8, 2), (64, 8, 10)]:
            self.assert_refused(self.by_right_angles(*counts), (0, 1))
        self.assert_refused(zigzag(14))
        self.assert_refused(stars(*[COMPASS[:3]] * 6, COMPASS[:2]))
        self.assert_refused(stars(COMPASS, CROSS))

    def test_fewer(self):
        for counts in [(64, 41), (64, 8, 2, 2), (41, 10, 8)]:
            self.check(self.by_right_angles(*counts), (0, 1))
        self.check(stars(COMPASS, COMPASS[:3]), (1, 1))
        self.check(zigzag(12), (1, 1))

    def test_the_limit_decides(self):
        pieces = stars(*[COMPASS] * 3)
        self.assert_refused(pieces, (1, 1))
        self.assert_refused(pieces, (0, 1))
        self.assert_found(pieces[:16], (-1, 1), 8, *[(k, k + 4) for k in range(16) if k % 8 < 4])
        self.assert_found(pieces, (-1, 1), 12, *[(k, k + 4) for k in range(24) if k % 8 < 4])

    def test_very_many_are_not_gone_through(self):
        self.assert_refused(zigzag(64))
        self.assert_refused(stars(*[COMPASS] * 8))
        grid = [((x, y), (x + 1, y)) for x in range(5) for y in range(6)]
        grid += [((x, y), (x, y + 1)) for x in range(6) for y in range(5)]
        self.assert_refused(grid)
        self.assert_refused(row(*[(k, 0) for k in range(65)]), (-1, 1))


class SixtyFourPieces(FewestCase):
    def test_few_ways(self):
        self.assert_found(zigzag(64), (-1, 1000), 64)
        self.assert_found(stars(*[COMPASS[:4]] * 16), (-1, 1), 64)

    def test_a_row_with_as_many_ways_as_may_be(self):
        # A zigzag, then a line that is straight on at twelve joints.
        points = [(5 * k, 5 * (k % 2)) for k in range(52)] + [(255, 5 + 5 * k) for k in range(1, 14)]
        pieces = row(*points)
        self.assertEqual((len(pieces), count_ways(pieces, -1, 1)), (64, 4096))
        self.assert_found(pieces, (-1, 1), 52, *[(k, k + 1) for k in range(51, 63)])
        self.assert_refused(pieces, (-1, 2))

    def test_stars_with_as_many_ways_as_may_be(self):
        pieces = stars(*[COMPASS[:3]] * 6) + lonely(46)
        self.assert_found(pieces, (1, 1), 58, *[(k, k + 1) for k in range(0, 18, 3)])
        pieces = lonely(46) + turned(stars(*[COMPASS[:3]] * 6), *range(18))
        self.assert_found(pieces, (1, 1), 58, *[(k, k + 1) for k in range(46, 64, 3)])


if __name__ == "__main__":
    unittest.main()
