"""judge: right plans and how many tubes they have, and what is told of a plan that isn't right."""

import random
import unittest

from glassbend.bending import judge
from tests.reference import count_tubes, drawing, fault, plan_with, random_pieces, random_plan, row, star, turned

COMPASS = [(5, 0), (5, 5), (0, 5), (-5, 5), (-5, 0), (-5, -5), (0, -5), (5, -5)]
SQUARE = row((0, 0), (10, 0), (10, 10), (0, 10), (0, 0))
TRIANGLE = row((20, 0), (30, 0), (20, 10), (20, 0))
# Pieces 0 and 1 go straight on, 2 stands upright on their joint, 3 goes on from 2, and 4 lies by itself.
FORK = row((0, 10), (10, 10), (20, 10)) + row((10, 10), (10, 20), (15, 25)) + [((50, 50), (60, 60))]


class JudgeCase(unittest.TestCase):
    def assert_judged(self, pieces, plan, limit, answer):
        c, d = limit
        wrong = fault(pieces, plan, c, d)
        own = [count_tubes(plan)] if wrong is None else [-9, *wrong]
        self.assertEqual(own, answer, "the test's own reading")
        self.assertEqual(judge(c, d, drawing(*pieces), plan), answer, (pieces, plan, limit))

    def assert_tubes(self, pieces, pairs, count, limit=(1, 1)):
        self.assert_judged(pieces, plan_with(pieces, *pairs), limit, [count])

    def assert_fault(self, pieces, plan, kind, place, limit=(1, 1)):
        self.assert_judged(pieces, plan, limit, [-9, kind, place])

    def changed(self, plan, changes):
        return [changes.get(place, number) for place, number in enumerate(plan)]


class RightPlans(JudgeCase):
    def test_a_piece_alone(self):
        self.assert_tubes([((3, 4), (5, 6))], [], 1)
        self.assertEqual(judge(-1, 1, drawing([(3, 4), (5, 6)]), [255, 255]), [1])

    def test_every_number_255(self):
        for pieces in (SQUARE, TRIANGLE, FORK, star(*COMPASS), SQUARE + TRIANGLE):
            for limit in [(1, 1), (0, 1), (-1, 1), (-1000, 1000)]:
                self.assert_tubes(pieces, [], len(pieces), limit)

    def test_rows(self):
        for count in (2, 3, 4, 10):
            pieces = row(*[(7 * k, k * k) for k in range(count + 1)])
            self.assert_tubes(pieces, [(k, k + 1) for k in range(count - 1)], 1)
            self.assert_tubes(pieces, [(k, k + 1) for k in range(count - 2)], 2)
            self.assert_tubes(pieces, [(k, k + 1) for k in range(0, count - 1, 2)], (count + 1) // 2)

    def test_two_pieces_whichever_way_their_ends_lie(self):
        for numbers in [(), (0,), (1,), (0, 1)]:
            pieces = turned(row((0, 0), (9, 0), (9, 9)), *numbers)
            self.assert_tubes(pieces, [(0, 1)], 1)
            self.assert_tubes(pieces, [], 2)

    def test_rings(self):
        self.assert_tubes(TRIANGLE, [(0, 1), (1, 2), (2, 0)], 1)
        self.assert_tubes(TRIANGLE, [(1, 2), (2, 0)], 1)
        self.assert_tubes(TRIANGLE, [(2, 0)], 2)
        self.assert_tubes(SQUARE, [(0, 1), (1, 2), (2, 3), (3, 0)], 1)
        self.assert_tubes(SQUARE, [(0, 1), (2, 3)], 2)
        for numbers in [(0,), (1, 2), (0, 2), (0, 1, 2)]:
            self.assert_tubes(turned(TRIANGLE, *numbers), [(0, 1), (1, 2), (2, 0)], 1)
            self.assert_tubes(turned(SQUARE, *numbers), [(0, 1), (1, 2), (2, 3), (3, 0)], 1)

    def test_rings_beside_rows_and_rings(self):
        pieces = FORK + [((x, y + 100), (z, w + 100)) for (x, y), (z, w) in SQUARE + TRIANGLE]
        ring = [(5, 6), (6, 7), (7, 8), (8, 5)]
        other = [(9, 10), (10, 11), (11, 9)]
        self.assert_tubes(pieces, ring, 5 + 1 + 3)
        self.assert_tubes(pieces, ring + other, 5 + 1 + 1)
        self.assert_tubes(pieces, ring + other + [(0, 1), (2, 3)], 3 + 1 + 1)
        self.assert_tubes(pieces, ring[1:] + other[1:] + [(0, 2), (2, 3)], 3 + 1 + 1)

    def test_two_rings_at_one_joint(self):
        pieces = row((10, 10), (20, 5), (20, 15), (10, 10), (0, 5), (0, 15), (10, 10))
        rings = [(0, 1), (1, 2), (3, 4), (4, 5)]
        self.assert_tubes(pieces, rings + [(2, 0), (3, 5)], 2)
        self.assert_tubes(pieces, rings + [(2, 3), (5, 0)], 1)
        self.assert_tubes(pieces, rings + [(2, 5), (3, 0)], 1)
        self.assert_tubes(pieces, rings + [(2, 3)], 1)
        self.assert_tubes(pieces, rings + [(2, 0)], 2)
        self.assert_tubes(pieces, rings, 2)

    def test_a_piece_that_goes_on_at_both_of_its_ends(self):
        self.assert_tubes(FORK, [(0, 2), (2, 3)], 3)
        self.assert_tubes(FORK, [(1, 2), (2, 3)], 3)
        self.assert_tubes(turned(FORK, 2), [(1, 2), (2, 3)], 3)

    def test_joints_of_each_degree(self):
        for degree in range(1, 9):
            pieces = star(*COMPASS[:degree])
            for pairs in range(degree // 2 + 1):
                joined = [(k, degree - 1 - k) for k in range(pairs)]
                self.assert_tubes(pieces, joined, degree - pairs)
                self.assert_tubes(turned(pieces, 0, 3, 5), joined, degree - pairs)

    def test_several_parts(self):
        self.assert_tubes(SQUARE + TRIANGLE, [(0, 1), (1, 2), (4, 5)], 4)
        self.assert_tubes(TRIANGLE + SQUARE, [(0, 1), (1, 2), (2, 0), (3, 4)], 4)
        pieces = [((k, 0), (k, 1)) for k in range(20)]
        self.assert_tubes(pieces, [], 20)

    def test_sixty_four_pieces(self):
        zigzag = row(*[(k, k % 2) for k in range(65)])
        self.assert_tubes(zigzag, [], 64)
        self.assert_tubes(zigzag, [(k, k + 1) for k in range(63)], 1)
        self.assert_tubes(zigzag, [(k, k + 1) for k in range(63) if k != 40], 2)
        self.assert_tubes([((k, 0), (k, 7)) for k in range(64)], [], 64)
        around = [(k, 0) for k in range(16)] + [(16, k) for k in range(16)]
        around += [(16 - k, 16) for k in range(16)] + [(0, 16 - k) for k in range(17)]
        self.assert_tubes(row(*around), [(k, (k + 1) % 64) for k in range(64)], 1)
        stars = [piece for x in range(8) for piece in star(*COMPASS, middle=(20 * x + 10, 10))]
        self.assert_tubes(stars, [(k, k + 4) for k in range(64) if k % 8 < 4], 32)


class Faults(JudgeCase):
    def test_another_length(self):
        for pieces in (SQUARE, FORK, [((0, 0), (1, 0))]):
            good = plan_with(pieces)
            for plan in ([], good[:-1], good[:-2], good[:1], good + [255], good + [255] * 2, [0] * 128,
                         [255] * 128, [0], [254] * (len(good) + 1)):
                self.assert_fault(pieces, plan, 1, 0)
        zigzag = row(*[(k, k % 2) for k in range(65)])
        self.assert_fault(zigzag, [255] * 127, 1, 0)
        self.assert_judged(zigzag, [255] * 128, (1, 1), [64])

    def test_no_piece_of_the_drawing(self):
        for place in (0, 1, 5, 9):
            for number in (5, 6, 63, 64, 127, 128, 253, 254):
                self.assert_fault(FORK, self.changed(plan_with(FORK), {place: number}), 2, place)

    def test_the_last_piece_is_one(self):
        self.assert_fault(FORK, self.changed(plan_with(FORK), {0: 4}), 3, 0)
        self.assert_tubes(SQUARE, [(3, 0)], 3)

    def test_the_piece_itself(self):
        for place in range(10):
            self.assert_fault(FORK, self.changed(plan_with(FORK), {place: place // 2}), 2, place)

    def test_a_piece_that_ends_elsewhere(self):
        for place, number in [(0, 4), (1, 3), (1, 4), (3, 4), (8, 0), (9, 3), (2, 3)]:
            self.assert_fault(FORK, self.changed(plan_with(FORK), {place: number}), 3, place)

    def test_a_piece_that_ends_at_the_other_end(self):
        for place, number in [(0, 1), (0, 2), (3, 0), (3, 2), (4, 3), (5, 0), (5, 1), (7, 2)]:
            self.assert_fault(FORK, self.changed(plan_with(FORK), {place: number}), 3, place)
        # Told back there, too: it is still not this joint's.
        self.assert_fault(FORK, self.changed(plan_with(FORK), {0: 1, 2: 0}), 3, 0)

    def test_a_piece_that_tells_nothing_back(self):
        for place, number in [(1, 1), (1, 2), (2, 0), (2, 2), (4, 0), (4, 1), (5, 3), (6, 2)]:
            self.assert_fault(FORK, self.changed(plan_with(FORK), {place: number}), 4, place)

    def test_a_piece_that_tells_another_back(self):
        self.assert_fault(FORK, self.changed(plan_with(FORK, (1, 2)), {1: 1}), 4, 1)
        self.assert_fault(FORK, self.changed(plan_with(FORK, (0, 1)), {4: 0}), 4, 4)
        self.assert_fault(FORK, self.changed(plan_with(FORK), {1: 1, 2: 2, 4: 0}), 4, 1)

    def test_a_piece_that_tells_this_one_back_at_its_other_end(self):
        self.assert_fault(FORK, self.changed(plan_with(FORK), {1: 1, 3: 0}), 4, 1)
        self.assert_fault(FORK, self.changed(plan_with(FORK), {1: 2, 5: 0}), 4, 1)
        self.assert_fault(turned(FORK, 2), self.changed(plan_with(FORK), {1: 2, 4: 0}), 4, 1)
        self.assert_fault(FORK, self.changed(plan_with(FORK), {5: 3, 7: 2}), 4, 5)

    def test_a_bend_that_may_not_be(self):
        for limit, sharp in [((-1, 1), True), ((-1, 1000), True), ((0, 1), False), ((1, 1000), False), ((1, 1), False)]:
            for pairs, place in [([(0, 2)], 1), ([(1, 2)], 2), ([(0, 2), (2, 3)], 1)]:
                if sharp:
                    self.assert_fault(FORK, plan_with(FORK, *pairs), 5, place, limit)
                else:
                    self.assert_tubes(FORK, pairs, 5 - len(pairs), limit)
            self.assert_tubes(FORK, [(0, 1)], 4, limit)

    def test_a_bend_just_at_the_limit(self):
        for u, v, c, d in [((3, 4), (5, 0), 3, 5), ((3, 4), (4, 3), 24, 25), ((-3, 4), (5, 0), -3, 5),
                           ((1, 0), (0, 1), 0, 1), ((2, 3), (-4, -6), -1, 1)]:
            pieces = star(u, v)
            self.assert_tubes(pieces, [(0, 1)], 1, (c, d))
            self.assert_tubes(pieces, [(0, 1)], 1, (c * 40, d * 40))
            if c > -d:
                self.assert_fault(pieces, plan_with(pieces, (0, 1)), 5, 0, (c * 40 - 1, d * 40))

    def test_just_beside_the_limit_where_the_root_is_no_whole_number(self):
        for v, right in [((780, 1351), True), ((571, 989), False)]:
            pieces = star((1, 0), v)
            if right:
                self.assert_tubes(pieces, [(0, 1)], 1, (1, 2))
            else:
                self.assert_fault(pieces, plan_with(pieces, (0, 1)), 5, 0, (1, 2))

    def test_a_bend_in_a_ring(self):
        ring = plan_with(TRIANGLE, (0, 1), (1, 2), (2, 0))
        self.assert_fault(TRIANGLE, ring, 5, 1, (707, 1000))
        self.assert_judged(TRIANGLE, ring, (708, 1000), [1])
        self.assert_fault(turned(TRIANGLE, 0), plan_with(turned(TRIANGLE, 0), (0, 1), (1, 2), (2, 0)), 5, 0, (0, 1))
        self.assert_fault(SQUARE, plan_with(SQUARE, (0, 1), (1, 2), (2, 3), (3, 0)), 5, 0, (-1, 1000))


class TheFirstFault(JudgeCase):
    # One fault of each kind from 2 on in FORK, by the limit -1 / 2: the kind, and the changes that make it.
    SPOILS = [(2, {0: 254}), (2, {9: 4}), (3, {0: 1}), (3, {8: 1}), (4, {2: 0}), (4, {6: 2}), (5, {2: 2, 4: 1})]

    def test_each_kind_alone(self):
        for kind, changes in self.SPOILS:
            plan = self.changed(plan_with(FORK), changes)
            self.assert_fault(FORK, plan, kind, min(changes), (-1, 2))

    def test_the_first_place_whatever_the_kinds(self):
        for kind, changes in self.SPOILS:
            for other, more in self.SPOILS:
                if set(changes) & set(more):
                    continue
                plan = self.changed(plan_with(FORK), {**changes, **more})
                place, told = min((min(changes), kind), (min(more), other))
                self.assert_fault(FORK, plan, told, place, (-1, 2))

    def test_another_length_goes_ahead(self):
        for kind, changes in self.SPOILS:
            plan = self.changed(plan_with(FORK), changes)
            self.assert_fault(FORK, plan + [255], 1, 0, (-1, 2))
            self.assert_fault(FORK, plan[:-1], 1, 0, (-1, 2))

    def test_the_first_kind_of_a_place(self):
        # Piece 2 is neither told back by 0, nor may that bend be.
        self.assert_fault(FORK, self.changed(plan_with(FORK), {1: 2}), 4, 1, (-1, 1))
        # Piece 3 neither ends at the joint nor tells 0 back.
        self.assert_fault(FORK, self.changed(plan_with(FORK), {1: 3}), 3, 1, (-1, 1))
        # A piece's own number ends at the joint and tells itself.
        self.assert_fault(FORK, self.changed(plan_with(FORK), {1: 0, 0: 255}), 2, 1, (-1, 1))

    def test_a_fault_at_the_last_place_alone(self):
        pieces = row(*[(k, k % 2) for k in range(65)])
        plan = plan_with(pieces, *[(k, k + 1) for k in range(63)])
        for number, kind in [(64, 2), (63, 2), (254, 2), (0, 3), (62, 3)]:
            self.assert_fault(pieces, plan[:-1] + [number], kind, 127)


class ManyPlans(JudgeCase):
    LIMITS = [(-1, 1), (-9, 10), (-1, 2), (0, 1), (1, 2), (707, 1000), (9, 10), (1, 1)]

    def test_against_a_second_reading(self):
        source = random.Random(5)
        seen = set()
        for turn in range(600):
            pieces = random_pieces(source, source.randint(1, 14), source.randint(2, 5))
            limit = source.choice(self.LIMITS)
            plan = random_plan(source, pieces, *source.choice([limit, limit, (1, 1)]))
            for change in range(source.choice([0, 0, 1, 1, 2, 5])):
                place = source.randrange(len(plan))
                plan[place] = source.choice([255, source.randrange(len(pieces)), source.randrange(256)])
            wrong = fault(pieces, plan, *limit)
            self.assert_judged(pieces, plan, limit, [count_tubes(plan)] if wrong is None else [-9, *wrong])
            seen.add(wrong and wrong[0])
        self.assertEqual(seen, {None, 2, 3, 4, 5})


if __name__ == "__main__":
    unittest.main()
