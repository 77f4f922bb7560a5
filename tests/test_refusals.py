"""may's refusals, their edges and their order, and that a call stands by itself."""

import unittest

from glassbend.bending import may
from tests.reference import Guarded, drawing, text

LARGEST = 2 ** 32 - 1
GOOD = drawing([(0, 0), (10, 0), (10, 10)], [(20, 20), (30, 20)])
BAD = text("sign Probe\n")
LONG = GOOD + [10] * (65537 - len(GOOD))


class Limits(unittest.TestCase):
    def assert_limit(self, c, d, is_one):
        answer = may(c, d, 0, 1, GOOD)
        self.assertEqual(answer, [int(c >= 0)] if is_one else [-1], (c, d))

    def test_d(self):
        for d, is_one in [(0, False), (1, True), (2, True), (999, True), (1000, True), (1001, False),
                          (2 ** 31, False), (LARGEST, False)]:
            self.assert_limit(0, d, is_one)
            self.assert_limit(1, d, is_one)
            self.assert_limit(-1, d, is_one)

    def test_c(self):
        for d in (1, 2, 10, 999, 1000):
            for c, is_one in [(-d - 1, False), (-d, True), (d, True), (d + 1, False)]:
                self.assert_limit(c, d, is_one)
            self.assert_limit(-2 ** 31, d, False)
            self.assert_limit(2 ** 31 - 1, d, False)

    def test_nothing_is_a_limit_by_a_wrong_d(self):
        for c in (-1002, -1001, -1000, 0, 1000, 1001, 1002):
            self.assert_limit(c, 0, False)
            self.assert_limit(c, 1001, False)


class Pieces(unittest.TestCase):
    def test_no_such_piece(self):
        for piece in (3, 4, 64, 255, 256, 2 ** 31, LARGEST):
            self.assertEqual(may(1, 1, piece, 0, GOOD), [-4])
            self.assertEqual(may(1, 1, 0, piece, GOOD), [-4])
            self.assertEqual(may(1, 1, piece, piece, GOOD), [-4])
            self.assertEqual(may(1, 1, piece, LARGEST, GOOD), [-4])

    def test_the_last_piece_is_one(self):
        self.assertEqual(may(1, 1, 2, 0, GOOD), [-5])
        self.assertEqual(may(1, 1, 1, 0, GOOD), [1])

    def test_pieces_that_do_not_meet(self):
        for i, j in [(0, 2), (2, 0), (1, 2), (2, 1)]:
            for c in (-1, 0, 1):
                self.assertEqual(may(c, 1, i, j, GOOD), [-5])

    def test_a_piece_and_itself(self):
        for piece in range(3):
            for c in (-1, 0, 1):
                self.assertEqual(may(c, 1, piece, piece, GOOD), [-5])

    def test_the_only_piece(self):
        t = drawing([(0, 0), (4095, 4095)])
        self.assertEqual(may(1, 1, 0, 0, t), [-5])
        self.assertEqual(may(1, 1, 0, 1, t), [-4])
        self.assertEqual(may(1, 1, 1, 0, t), [-4])


class Length(unittest.TestCase):
    def test_the_longest_text(self):
        for part in (GOOD, BAD, text("x"), text(" "), text(","), text("1"), [10], [0], [255]):
            for length, answer in [(65535, -6), (65536, -6), (65537, -2), (66000, -2)]:
                t = (part * (length // len(part) + 1))[:length]
                self.assertEqual(may(0, 1, 0, 1, t), [answer])


class Order(unittest.TestCase):
    def test_the_first_that_holds_is_told(self):
        limits = [(0, 1, 0), (2, 1, -1), (0, 0, -1), (0, 1001, -1)]
        numbers = [(0, 1, 1), (0, 2, -5), (1, 1, -5), (3, 3, -4), (0, 3, -4), (LARGEST, 0, -4)]
        for t, by_text in [(LONG, -2), (BAD, -6), ([], -6), (GOOD, 0)]:
            for c, d, by_limit in limits:
                for i, j, by_pieces in numbers:
                    answer = by_text or by_limit or by_pieces
                    self.assertEqual(may(c, d, i, j, t), [answer], (len(t), c, d, i, j))


class CallsByThemselves(unittest.TestCase):
    CALLS = [(c, d, i, j, t)
             for t in (GOOD, BAD, LONG, [], drawing([(5, 5), (0, 0), (5, 0)]))
             for c, d in ((0, 1), (1, 1), (1, 0))
             for i, j in ((0, 1), (1, 0), (0, 2), (1, 1), (9, 0))]

    def test_what_is_handed_in_stays_as_it_was(self):
        for c, d, i, j, t in self.CALLS:
            guarded = Guarded(t)
            may(c, d, i, j, guarded)
            self.assertEqual(guarded, t)

    def test_what_is_given_back_is_a_new_list_of_whole_numbers(self):
        for call in self.CALLS:
            answer = may(*call)
            self.assertIs(type(answer), list)
            self.assertEqual([type(number) for number in answer], [int])
            kept = list(answer)
            answer.append(77)
            self.assertEqual(may(*call), kept)

    def test_the_same_whatever_was_called_before(self):
        alone = [may(*call) for call in self.CALLS]
        self.assertEqual(list(reversed([may(*call) for call in reversed(self.CALLS)])), alone)
        for step in (2, 7, 11):
            for k in range(len(alone)):
                k = k * step % len(alone)
                self.assertEqual(may(*self.CALLS[k]), alone[k])

    def test_by_its_names(self):
        self.assertEqual(may(t=GOOD, j=1, i=0, d=1, c=0), [1])


if __name__ == "__main__":
    unittest.main()
