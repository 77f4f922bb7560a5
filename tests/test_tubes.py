"""tubes: how the tubes of a right plan are told."""

import random
import unittest

from glassbend.bending import judge, tubes
from tests.reference import (count_tubes, drawing, ends_of, fault, plan_with, random_pieces, random_plan, row, star,
                             turned)

CORNERS = row((0, 0), (9, 0), (9, 9), (18, 9), (18, 18), (27, 18))
SQUARE = row((0, 0), (10, 0), (10, 10), (0, 10), (0, 0))
TRIANGLE = row((20, 0), (30, 0), (20, 10), (20, 0))
BOW = row((10, 10), (20, 5), (20, 15), (10, 10), (0, 5), (0, 15), (10, 10))


def in_order(pieces, *numbers):
    """The same pieces, the one of the first number as piece 0, and so on."""
    return [pieces[number] for number in numbers]


def chain(*numbers):
    """The pairs that join these pieces to a row."""
    return list(zip(numbers, numbers[1:]))


def read_tubes(answer):
    """What is told of each tube, as (ring, [(piece, turned), ..])."""
    told = []
    rest = answer[1:]
    for count in range(answer[0]):
        length, ring = rest[:2]
        numbers = rest[2:2 + 2 * length]
        told.append((ring, list(zip(numbers[::2], numbers[1::2]))))
        rest = rest[2 + 2 * length:]
    if rest:
        raise AssertionError("numbers behind the last tube")
    return told


class TubesCase(unittest.TestCase):
    def assert_told(self, pieces, pairs, *expected):
        """Each tube expected as [ring, piece, turned, piece, turned, ..]."""
        plan = plan_with(pieces, *pairs)
        answer = [len(expected)]
        for tube in expected:
            answer += [len(tube) // 2] + tube
        self.assertEqual(tubes(drawing(*pieces), plan), answer, (pieces, pairs))
        self.check(pieces, plan)

    def check(self, pieces, plan):
        """Holds what is told against all that must be so of it."""
        answer = tubes(drawing(*pieces), plan)
        told = read_tubes(answer)
        self.assertEqual(answer[:1], judge(1, 1, drawing(*pieces), plan))
        self.assertEqual(answer[0], count_tubes(plan))
        numbers = [piece for ring, steps in told for piece, turn in steps]
        self.assertEqual(sorted(numbers), list(range(len(pieces))))
        begins = [steps[0][0] for ring, steps in told]
        self.assertEqual(begins, sorted(begins))
        for ring, steps in told:
            self.check_tube(pieces, plan, ring, steps)

    def check_tube(self, pieces, plan, ring, steps):
        ends = ends_of(pieces)
        coming = [2 * piece + turn for piece, turn in steps]
        leaving = [2 * piece + 1 - turn for piece, turn in steps]
        for p, q in zip(leaving, coming[1:] + coming[:1] * ring):
            self.assertEqual((plan[p], plan[q], ends[p]), (q // 2, p // 2, ends[q]))
        if ring == 1:
            self.assertEqual(steps[0], (min(piece for piece, turn in steps), 0))
        else:
            self.assertEqual((ring, plan[coming[0]], plan[leaving[-1]]), (0, 255, 255))
            self.assertLessEqual(steps[0][0], steps[-1][0])
            self.assertTrue(len(steps) > 1 or steps[0][1] == 0)


class Rows(TubesCase):
    def test_a_piece_alone(self):
        self.assert_told([((3, 4), (5, 6))], [], [0, 0, 0])
        self.assert_told([((5, 6), (3, 4))], [], [0, 0, 0])

    def test_two_pieces_whichever_way_their_ends_lie(self):
        pieces = CORNERS[:2]
        self.assert_told(pieces, [(0, 1)], [0, 0, 0, 1, 0])
        self.assert_told(turned(pieces, 0), [(0, 1)], [0, 0, 1, 1, 0])
        self.assert_told(turned(pieces, 1), [(0, 1)], [0, 0, 0, 1, 1])
        self.assert_told(turned(pieces, 0, 1), [(0, 1)], [0, 0, 1, 1, 1])
        self.assert_told(pieces, [], [0, 0, 0], [0, 1, 0])
        self.assert_told(turned(pieces, 0, 1), [], [0, 0, 0], [0, 1, 0])

    def test_turned_pieces_at_the_start_in_the_midst_and_at_the_end(self):
        pairs = chain(0, 1, 2, 3, 4)
        self.assert_told(CORNERS, pairs, [0, 0, 0, 1, 0, 2, 0, 3, 0, 4, 0])
        self.assert_told(turned(CORNERS, 0), pairs, [0, 0, 1, 1, 0, 2, 0, 3, 0, 4, 0])
        self.assert_told(turned(CORNERS, 2), pairs, [0, 0, 0, 1, 0, 2, 1, 3, 0, 4, 0])
        self.assert_told(turned(CORNERS, 4), pairs, [0, 0, 0, 1, 0, 2, 0, 3, 0, 4, 1])
        self.assert_told(turned(CORNERS, 0, 1, 3), pairs, [0, 0, 1, 1, 1, 2, 0, 3, 1, 4, 0])
        self.assert_told(turned(CORNERS, 0, 1, 2, 3, 4), pairs, [0, 0, 1, 1, 1, 2, 1, 3, 1, 4, 1])

    def test_a_row_that_begins_at_its_other_end(self):
        pieces = CORNERS[::-1]
        self.assert_told(pieces, chain(0, 1, 2, 3, 4), [0, 0, 1, 1, 1, 2, 1, 3, 1, 4, 1])
        self.assert_told(turned(pieces, 1, 4), chain(0, 1, 2, 3, 4), [0, 0, 1, 1, 0, 2, 1, 3, 1, 4, 0])

    def test_a_lesser_end_piece_that_is_not_the_least_piece(self):
        pieces = in_order(CORNERS, 1, 0, 2)
        self.assert_told(pieces, [(1, 0), (0, 2)], [0, 1, 0, 0, 0, 2, 0])
        self.assert_told(in_order(CORNERS, 1, 2, 0), [(2, 0), (0, 1)], [0, 1, 1, 0, 1, 2, 1])
        pieces = in_order(CORNERS, 2, 1, 3, 4, 0)
        self.assert_told(pieces, chain(4, 1, 0, 2, 3), [0, 3, 1, 2, 1, 0, 1, 1, 1, 4, 1])
        pieces = in_order(CORNERS, 2, 3, 1, 0, 4)
        self.assert_told(pieces, chain(3, 2, 0, 1, 4), [0, 3, 0, 2, 0, 0, 0, 1, 0, 4, 0])

    def test_the_order_of_rows(self):
        pieces = in_order(CORNERS, 3, 1, 0, 2, 4)
        self.assert_told(pieces, [(2, 1), (0, 4)], [0, 0, 0, 4, 0], [0, 1, 1, 2, 1], [0, 3, 0])
        # Piece 0 lies in the midst of a row that begins with piece 2, behind the row of piece 1.
        pieces = in_order(CORNERS, 1, 4, 0, 2, 3)
        self.assert_told(pieces, chain(2, 0, 3), [0, 1, 0], [0, 2, 0, 0, 0, 3, 0], [0, 4, 0])

    def test_a_row_that_comes_back_to_a_joint(self):
        self.assert_told(BOW, chain(0, 1, 2, 3), [0, 0, 0, 1, 0, 2, 0, 3, 0], [0, 4, 0], [0, 5, 0])
        self.assert_told(BOW, chain(0, 1, 2, 3, 4, 5), [0, 0, 0, 1, 0, 2, 0, 3, 0, 4, 0, 5, 0])
        self.assert_told(BOW, chain(0, 1, 2, 5, 4, 3), [0, 0, 0, 1, 0, 2, 0, 5, 1, 4, 1, 3, 1])
        # Both its ends lie at one joint, where it doesn't go on into itself.
        self.assert_told(TRIANGLE, chain(0, 1, 2), [0, 0, 0, 1, 0, 2, 0])
        self.assert_told(TRIANGLE, chain(1, 2, 0), [0, 0, 1, 2, 1, 1, 1])
        # A way in, round, and out.
        pieces = TRIANGLE + row((10, 0), (20, 0)) + row((20, 0), (15, 10))
        self.assert_told(pieces, chain(3, 0, 1, 2, 4), [0, 3, 0, 0, 0, 1, 0, 2, 0, 4, 0])
        self.assert_told(pieces, chain(3, 2, 1, 0, 4), [0, 3, 0, 2, 1, 1, 1, 0, 1, 4, 0])

    def test_a_joint_of_eight_pieces(self):
        pieces = star((5, 0), (5, 5), (0, 5), (-5, 5), (-5, 0), (-5, -5), (0, -5), (5, -5))
        self.assert_told(pieces, [(0, 4), (5, 1), (2, 6), (7, 3)], [0, 0, 1, 4, 0], [0, 1, 1, 5, 0],
                         [0, 2, 1, 6, 0], [0, 3, 1, 7, 0])
        self.assert_told(turned(pieces, 4, 5, 1), [(0, 4), (5, 1), (2, 7)], [0, 0, 1, 4, 1], [0, 1, 0, 5, 1],
                         [0, 2, 1, 7, 0], [0, 3, 0], [0, 6, 0])

    def test_several_parts(self):
        pieces = in_order(CORNERS[:2] + row((50, 0), (60, 0), (60, 10)), 3, 0, 2, 1)
        self.assert_told(pieces, [(0, 2), (1, 3)], [0, 0, 1, 2, 1], [0, 1, 0, 3, 0])

    def test_sixty_four_pieces(self):
        zigzag = row(*[(k, k % 2) for k in range(65)])
        whole = [number for k in range(64) for number in (k, 0)]
        self.assert_told(zigzag, chain(*range(64)), [0] + whole)
        self.assert_told(zigzag[::-1], chain(*range(64)), [0] + [number for k in range(64) for number in (k, 1)])
        alone = [((k, 0), (k, 7)) for k in range(64)]
        self.assert_told(alone, [], *[[0, k, 0] for k in range(64)])
        self.assert_told(zigzag, [], *[[0, k, 0] for k in range(64)])


class Rings(TubesCase):
    def test_of_three_and_four_pieces(self):
        self.assert_told(TRIANGLE, chain(0, 1, 2, 0), [1, 0, 0, 1, 0, 2, 0])
        self.assert_told(SQUARE, chain(0, 1, 2, 3, 0), [1, 0, 0, 1, 0, 2, 0, 3, 0])

    def test_with_turned_pieces(self):
        self.assert_told(turned(TRIANGLE, 0), chain(0, 1, 2, 0), [1, 0, 0, 2, 1, 1, 1])
        self.assert_told(turned(TRIANGLE, 1), chain(0, 1, 2, 0), [1, 0, 0, 1, 1, 2, 0])
        self.assert_told(turned(TRIANGLE, 2), chain(0, 1, 2, 0), [1, 0, 0, 1, 0, 2, 1])
        self.assert_told(turned(TRIANGLE, 0, 1, 2), chain(0, 1, 2, 0), [1, 0, 0, 2, 0, 1, 0])
        self.assert_told(turned(SQUARE, 0, 2), chain(0, 1, 2, 3, 0), [1, 0, 0, 3, 1, 2, 0, 1, 1])

    def test_numbered_otherwise(self):
        self.assert_told(in_order(SQUARE, 2, 0, 3, 1), chain(1, 3, 0, 2, 1), [1, 0, 0, 2, 0, 1, 0, 3, 0])
        self.assert_told(in_order(SQUARE, 2, 1, 0, 3), chain(0, 1, 2, 3, 0), [1, 0, 0, 3, 0, 2, 0, 1, 0])

    def test_of_many_pieces(self):
        around = [(k, 0) for k in range(16)] + [(16, k) for k in range(16)]
        around += [(16 - k, 16) for k in range(16)] + [(0, 16 - k) for k in range(17)]
        pieces = row(*around)
        pairs = chain(*range(64), 0)
        self.assert_told(pieces, pairs, [1] + [number for k in range(64) for number in (k, 0)])
        backwards = [number for k in range(63, 0, -1) for number in (k, 1)]
        self.assert_told(turned(pieces, 0), pairs, [1, 0, 0] + backwards)
        self.assert_told(pieces, pairs[:-1], [0] + [number for k in range(64) for number in (k, 0)])

    def test_beside_rows(self):
        pieces = [((40, 0), (50, 0))] + TRIANGLE + [((50, 0), (50, 9))]
        ring = chain(1, 2, 3, 1)
        self.assert_told(pieces, ring, [0, 0, 0], [1, 1, 0, 2, 0, 3, 0], [0, 4, 0])
        self.assert_told(pieces, ring + [(0, 4)], [0, 0, 0, 4, 0], [1, 1, 0, 2, 0, 3, 0])
        # The ring's least piece lies between a row's two end pieces, or ahead of both of them.
        pieces = in_order(TRIANGLE + row((40, 0), (50, 0), (50, 9), (60, 9)), 4, 3, 0, 5, 1, 2)
        self.assert_told(pieces, chain(2, 4, 5, 2) + chain(1, 0, 3), [0, 1, 0, 0, 0, 3, 0], [1, 2, 0, 4, 0, 5, 0])
        pieces = in_order(TRIANGLE + row((40, 0), (50, 0), (50, 9), (60, 9)), 4, 0, 3, 5, 1, 2)
        self.assert_told(pieces, chain(1, 4, 5, 1) + chain(2, 0, 3), [1, 1, 0, 4, 0, 5, 0], [0, 2, 0, 0, 0, 3, 0])

    def test_that_share_a_joint(self):
        rings = chain(0, 1, 2, 0) + chain(3, 4, 5, 3)
        self.assert_told(BOW, rings, [1, 0, 0, 1, 0, 2, 0], [1, 3, 0, 4, 0, 5, 0])
        self.assert_told(turned(BOW, 3), rings, [1, 0, 0, 1, 0, 2, 0], [1, 3, 0, 5, 1, 4, 1])
        self.assert_told(in_order(BOW, 3, 0, 4, 1, 5, 2), chain(1, 3, 5, 1) + chain(0, 2, 4, 0),
                         [1, 0, 0, 2, 0, 4, 0], [1, 1, 0, 3, 0, 5, 0])
        self.assert_told(BOW, chain(0, 1, 2, 0) + chain(3, 4, 5), [1, 0, 0, 1, 0, 2, 0], [0, 3, 0, 4, 0, 5, 0])

    def test_one_that_comes_twice_to_a_joint(self):
        self.assert_told(BOW, chain(0, 1, 2, 3, 4, 5, 0), [1, 0, 0, 1, 0, 2, 0, 3, 0, 4, 0, 5, 0])
        self.assert_told(BOW, chain(0, 1, 2, 5, 4, 3, 0), [1, 0, 0, 1, 0, 2, 0, 5, 1, 4, 1, 3, 1])


class PlansThatAreNotRight(unittest.TestCase):
    T = drawing([(0, 10), (10, 10), (20, 10)], [(10, 10), (10, 20)])

    def assert_refused(self, *plans):
        for plan in plans:
            self.assertEqual(tubes(self.T, plan), [-9], plan)

    def test_each_kind(self):
        self.assert_refused([], [255] * 5, [255] * 7, [255] * 128, [0])
        self.assert_refused([3] + [255] * 5, [255] * 5 + [254], [255, 0, 255, 255, 255, 255], [0] * 6)
        self.assert_refused([1] + [255] * 5, [255] * 5 + [0], [1, 255, 0, 255, 255, 255])
        self.assert_refused([255, 1] + [255] * 4, [255, 1, 2, 255, 1, 255], [255, 1, 255, 0, 255, 255])

    def test_no_bend_is_too_sharp(self):
        t = drawing([(4095, 4094), (0, 0), (4094, 4093)])
        self.assertEqual(judge(999, 1000, t, [255, 1, 0, 255]), [-9, 5, 1])
        self.assertEqual(tubes(t, [255, 1, 0, 255]), [1, 2, 0, 0, 0, 1, 0])
        t = drawing([(0, 0), (9, 0)], [(0, 0), (9, 1)], [(0, 0), (8, 1)])
        self.assertEqual(tubes(t, [1, 255, 0, 255, 255, 255]), [2, 2, 0, 0, 1, 1, 0, 1, 0, 2, 0])
        self.assertEqual(tubes(t, [255, 255, 2, 255, 1, 255]), [2, 1, 0, 0, 0, 2, 0, 1, 1, 2, 0])


class ManyPlans(TubesCase):
    def test_what_is_told_is_as_it_must_be(self):
        source = random.Random(6)
        rings = 0
        for turn in range(400):
            pieces = random_pieces(source, source.randint(1, 20), source.randint(2, 5))
            plan = random_plan(source, pieces, *source.choice([(0, 1), (1, 1), (1, 1)]))
            self.check(pieces, plan)
            rings += sum(ring for ring, steps in read_tubes(tubes(drawing(*pieces), plan)))
            plan[source.randrange(len(plan))] = source.choice([255, source.randrange(len(pieces))])
            if fault(pieces, plan, 1, 1) is not None:
                self.assertEqual(tubes(drawing(*pieces), plan), [-9])
        self.assertGreater(rings, 20)


if __name__ == "__main__":
    unittest.main()
