"""The refusals, their edges and their order."""

import unittest

from glassbend.bending import fewest, judge, may, tubes
from tests.reference import drawing, text

LARGEST = 2 ** 32 - 1
GOOD = drawing([(0, 0), (10, 0), (10, 10)], [(20, 20), (30, 20)])
BAD = text("sign Probe\n")
LONG = GOOD + [10] * (65537 - len(GOOD))
# The plan in which pieces 0 and 1 of the good drawing, which stand at a right angle, go on into one another.
BENT = [255, 1, 0, 255, 255, 255]
MANY = drawing([(k, k % 2) for k in range(15)])


class Limits(unittest.TestCase):
    def assert_limit(self, c, d, is_one):
        self.assertEqual(may(c, d, 0, 1, GOOD), [int(c >= 0)] if is_one else [-1], (c, d))
        judged = [2] if c >= 0 else [-9, 5, 1]
        self.assertEqual(judge(c, d, GOOD, BENT), judged if is_one else [-1], (c, d))
        found = [2] + BENT if c >= 0 else [3] + [255] * 6
        self.assertEqual(fewest(c, d, GOOD), found if is_one else [-1], (c, d))

    def test_d(self):
        for d, is_one in [(0, False), (1, True), (2, True), (999, True), (1000, True), (1001, False),
                          (2 ** 31, False), (LARGEST, False)]:
            self.assert_limit(0, d, is_one)
            self.assert_limit(1, d, is_one)
            self.assert_limit(-1, d, is_one)

    def test_c(self):
        for d in (1, 2, 10, 999, 1000):
            for c, is_one in [(-d - 1, False), (-d, True), (d, True), (d + 1, False)]:
                self.assert_limit(c, d, is_one)
            self.assert_limit(-2 ** 31, d, False)
            self.assert_limit(2 ** 31 - 1, d, False)

    def test_nothing_is_a_limit_by_a_wrong_d(self):
        for c in (-1002, -1001, -1000, 0, 1000, 1001, 1002):
            self.assert_limit(c, 0, False)
            self.assert_limit(c, 1001, False)


class Pieces(unittest.TestCase):
    def test_no_such_piece(self):
        for piece in (3, 4, 64, 255, 256, 2 ** 31, LARGEST):
            self.assertEqual(may(1, 1, piece, 0, GOOD), [-4])
            self.assertEqual(may(1, 1, 0, piece, GOOD), [-4])
            self.assertEqual(may(1, 1, piece, piece, GOOD), [-4])
            self.assertEqual(may(1, 1, piece, LARGEST, GOOD), [-4])

    def test_the_last_piece_is_one(self):
        self.assertEqual(may(1, 1, 2, 0, GOOD), [-5])
        self.assertEqual(may(1, 1, 1, 0, GOOD), [1])

    def test_pieces_that_do_not_meet(self):
        for i, j in [(0, 2), (2, 0), (1, 2), (2, 1)]:
            for c in (-1, 0, 1):
                self.assertEqual(may(c, 1, i, j, GOOD), [-5])

    def test_a_piece_and_itself(self):
        for piece in range(3):
            for c in (-1, 0, 1):
                self.assertEqual(may(c, 1, piece, piece, GOOD), [-5])

    def test_the_only_piece(self):
        t = drawing([(0, 0), (4095, 4095)])
        self.assertEqual(may(1, 1, 0, 0, t), [-5])
        self.assertEqual(may(1, 1, 0, 1, t), [-4])
        self.assertEqual(may(1, 1, 1, 0, t), [-4])


class Length(unittest.TestCase):
    def test_the_longest_text(self):
        for part in (GOOD, BAD, text("x"), text(" "), text(","), text("1"), [10], [0], [255]):
            for length, answer in [(65535, -6), (65536, -6), (65537, -2), (66000, -2)]:
                t = (part * (length // len(part) + 1))[:length]
                self.assertEqual(may(0, 1, 0, 1, t), [answer])
                self.assertEqual(judge(0, 1, t, BENT), [answer])
                self.assertEqual(tubes(t, BENT), [answer])
                self.assertEqual(fewest(0, 1, t), [answer])


class Order(unittest.TestCase):
    TEXTS = [(LONG, [-2]), (BAD, [-6]), ([], [-6]), (GOOD, None)]
    LIMITS = [(0, 1, None), (2, 1, [-1]), (0, 0, [-1]), (0, 1001, [-1])]
    PLANS = [(BENT, None), ([255] * 6, None), ([], [-9, 1, 0]), ([255] * 128, [-9, 1, 0]),
             ([3] + [255] * 5, [-9, 2, 0]), ([255] * 5 + [0], [-9, 3, 5]), ([255, 1] + [255] * 4, [-9, 4, 1])]

    def test_of_may(self):
        numbers = [(0, 1, [1]), (0, 2, [-5]), (1, 1, [-5]), (3, 3, [-4]), (0, 3, [-4]), (LARGEST, 0, [-4])]
        for t, by_text in self.TEXTS:
            for c, d, by_limit in self.LIMITS:
                for i, j, by_pieces in numbers:
                    answer = by_text or by_limit or by_pieces
                    self.assertEqual(may(c, d, i, j, t), answer, (len(t), c, d, i, j))

    def test_of_judge(self):
        for t, by_text in self.TEXTS:
            for c, d, by_limit in self.LIMITS:
                for plan, by_plan in self.PLANS:
                    answer = by_text or by_limit or by_plan or [3 - (plan == BENT)]
                    self.assertEqual(judge(c, d, t, plan), answer, (len(t), c, d, plan))
                answer = by_text or by_limit or [-9, 5, 1]
                self.assertEqual(judge(-1 if c == 0 else c, d, t, BENT), answer)

    def test_of_tubes(self):
        for t, by_text in self.TEXTS:
            for plan, by_plan in self.PLANS:
                answer = by_text or (by_plan and [-9]) or [3 - (plan == BENT)]
                self.assertEqual(tubes(t, plan)[:1], answer, (len(t), plan))
                if by_text or by_plan:
                    self.assertEqual(len(tubes(t, plan)), 1)

    def test_of_fewest(self):
        # Behind the byte 10 that ends it: no drawing's, or too long.
        texts = [(MANY + [32], [-6]), (MANY + [10] * 65536, [-2]), (MANY, None)]
        for t, by_text in self.TEXTS[:3] + texts:
            for c, d, by_limit in [(1, 1, None)] + self.LIMITS[1:]:
                self.assertEqual(fewest(c, d, t), by_text or by_limit or [-8], (len(t), c, d))
        for c, d, by_limit in self.LIMITS:
            self.assertEqual(fewest(c, d, GOOD), by_limit or [2] + BENT)


if __name__ == "__main__":
    unittest.main()
