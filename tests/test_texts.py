"""Which texts are a drawing's; one that is none is refused with -6."""

import random
import unittest

from glassbend.bending import may
from tests.reference import drawing, is_drawing, text

SHORT = "sign A\nstroke 0,0 1,0\n"
STAR = [(1, 0), (1, 1), (0, 1), (-1, 1), (-1, 0), (-1, -1), (0, -1), (1, -1), (1, 2), (2, 1)]


class TextCase(unittest.TestCase):
    def assert_text(self, t, good):
        self.assertEqual(is_drawing(t), good, "the test's own reading")
        # A drawing has a piece 0, which doesn't meet itself.
        self.assertEqual(may(0, 1, 0, 0, t), [-5 if good else -6], bytes(t[:200]))

    def assert_texts(self, good, *texts):
        for words in texts:
            self.assert_text(text(words), good)

    def assert_strokes(self, good, *strokes):
        self.assert_text(drawing(*strokes), good)


class Lines(TextCase):
    def test_good_ones(self):
        self.assert_texts(True, SHORT, "sign Z9z\nstroke 0,0 1,0 1,1\nstroke 7,7 4095,4095\n",
                          "sign stroke\nstroke 10,20 30,40\n", "sign sign\nstroke 10,20 30,40\n")

    def test_too_few_lines(self):
        self.assert_texts(False, "", "\n", "\n\n", "\n\n\n", "sign A", "sign A\n", "sign A\n\n", "sign A\nsign A\n")

    def test_a_missing_line_end(self):
        self.assert_texts(False, SHORT[:-1], SHORT + "stroke 5,5 6,6", SHORT + "s", SHORT + " ",
                          "sign A stroke 0,0 1,0\n", SHORT + "stroke 5,5 6,6 stroke 7,7 8,8\n")
        self.assert_texts(True, SHORT + "stroke 5,5 6,6\n")

    def test_other_line_ends(self):
        self.assert_texts(False, SHORT.replace("\n", "\r\n"), SHORT.replace("\n", "\r"), SHORT + "\r",
                          SHORT.replace("\n", "\0"), SHORT.replace("\n", "\x0b"))

    def test_empty_lines(self):
        self.assert_texts(False, "\n" + SHORT, SHORT + "\n", SHORT.replace("\n", "\n\n"),
                          SHORT + "\nstroke 5,5 6,6\n")

    def test_lines_in_the_wrong_place(self):
        self.assert_texts(False, "stroke 0,0 1,0\n", "stroke 0,0 1,0\nsign A\n", "sign A\n" + SHORT, SHORT + "sign A\n",
                          "stroke 0,0 1,0\nstroke 5,5 6,6\n")

    def test_blanks(self):
        for k, sign in enumerate(SHORT):
            self.assert_texts(False, SHORT[:k] + " " + SHORT[k:])
            if sign == " ":
                self.assert_texts(False, SHORT[:k] + SHORT[k + 1:], SHORT[:k] + "\t" + SHORT[k + 1:])
        self.assert_texts(False, SHORT + " \n", SHORT + " ")

    def test_first_words(self):
        for word in ("", "s", "sig", "signs", "Sign", "SIGN", "sigm", "stroke", "sign\0"):
            self.assert_texts(False, SHORT.replace("sign", word))
        for word in ("", "s", "strok", "strokes", "Stroke", "STROKE", "strike", "sign", "stroke,"):
            self.assert_texts(False, SHORT.replace("stroke", word))


class Names(TextCase):
    def test_lengths(self):
        for name, good in [("", False), ("B", True), ("BC", True), ("Abcdefghij9", True), ("Abcdefghij90", True),
                           ("Abcdefghij90x", False), ("x" * 1000, False)]:
            self.assert_texts(good, SHORT.replace("A", name))
        self.assert_texts(False, SHORT.replace(" A", ""), SHORT.replace("A", "A B"))

    def test_every_byte(self):
        for byte in range(256):
            good = byte < 128 and chr(byte).isalnum()
            for name in ([byte], [65, byte], [byte, 65], [65] * 11 + [byte]):
                self.assert_text(text("sign ") + name + text("\nstroke 0,0 1,0\n"), good)


class Numbers(TextCase):
    def put(self, good, number):
        """Judges the number in each place of a stroke."""
        for k in range(4):
            numbers = ["5", "70", "600", "1000"]
            numbers[k] = number
            self.assert_texts(good, "sign A\nstroke {},{} {},{}\n".format(*numbers))

    def test_needless_zeros(self):
        self.put(True, "0")
        for number in ("00", "000", "01", "007", "0100", "00000", "04095", "0" * 5000, "0" * 5000 + "1"):
            self.put(False, number)

    def test_the_largest(self):
        for number in ("9", "10", "99", "999", "1000", "4094", "4095"):
            self.put(True, number)
        for number in ("4096", "4100", "5000", "9999", "10000", "40950", "4294967296", "18446744073709551616"):
            self.put(False, number)

    def test_many_thousand_digits(self):
        for length in (4299, 4300, 4301, 5000, 60000):
            self.put(False, "1" * length)

    def test_no_numbers(self):
        for number in ("", "-1", "-0", "+1", "1.0", "1e2", "0x1", "1_0", "a", "1a", "a1", "10x", "\xb2", "\xb9", "1\0"):
            self.put(False, number)

    def test_every_byte(self):
        for byte in range(256):
            good = 48 <= byte <= 57
            for number in ([byte], [49, byte], [49, 50, byte]):
                self.assert_text(text("sign A\nstroke 0,7 8,") + number + [10], good)
            self.assert_text(text("sign A\nstroke 0,7 8,") + [byte, 49] + [10], good and byte != 48)

    def test_no_points(self):
        for point in ("3", ",", "3,", ",3", "3,4,", ",3,4", "3,4,5", "3,,4", "3;4", "3.4", "3,4;", "(3,4)"):
            self.assert_texts(False, f"sign A\nstroke {point} 1,0\n", f"sign A\nstroke 0,0 {point}\n",
                              f"sign A\nstroke 0,0 1,0 {point}\n")


class Strokes(TextCase):
    def test_how_many_points(self):
        for count, good in [(0, False), (1, False), (2, True), (3, True), (64, True), (65, True), (66, False),
                            (67, False), (2000, False)]:
            self.assert_strokes(good, [(k, 0) for k in range(count)])
        self.assert_texts(False, "sign A\nstroke\n", "sign A\nstroke \n", SHORT + "stroke 9,9\n", SHORT + "stroke\n")

    def test_a_point_that_is_the_one_before_it(self):
        self.assert_strokes(False, [(3, 3), (3, 3)])
        self.assert_strokes(False, [(0, 0), (3, 3), (3, 3)])
        self.assert_strokes(False, [(3, 3), (3, 3), (0, 0)])
        self.assert_strokes(False, [(9, 0), (9, 9)], [(0, 0), (3, 3), (3, 3), (4, 0)])
        self.assert_strokes(False, [(0, 0), (0, 0)], [(9, 9), (8, 9)])
        self.assert_strokes(True, [(0, 0), (3, 0), (3, 3), (0, 0)])
        self.assert_strokes(True, [(0, 0), (3, 3)], [(3, 3), (4, 5)])

    def test_how_many_pieces(self):
        for counts, good in [([64], True), ([63, 1], True), ([1, 63], True), ([64, 1], False), ([63, 2], False),
                             ([1, 64], False), ([32, 32], True), ([32, 33], False), ([1] * 64, True),
                             ([1] * 65, False), ([2] * 32, True), ([2] * 32 + [1], False), ([1] * 62 + [2], True),
                             ([1] * 63 + [2], False), ([1] * 3000, False)]:
            strokes = [[(k, y) for k in range(count + 1)] for y, count in enumerate(counts)]
            self.assert_strokes(good, *strokes)

    def test_the_last_of_64_pieces_is_one(self):
        t = drawing([(k, 0) for k in range(65)])
        self.assertEqual(may(-1, 1, 62, 63, t), [1])
        self.assertEqual(may(-1, 1, 63, 64, t), [-4])


class MeetingBadly(TextCase):
    def test_crossing(self):
        self.assert_strokes(False, [(0, 0), (1, 1)], [(1, 0), (0, 1)])
        self.assert_strokes(False, [(0, 5), (10, 5)], [(5, 0), (5, 10)])
        self.assert_strokes(False, [(0, 0), (10, 10), (10, 0), (0, 10)])
        self.assert_strokes(False, [(0, 0), (3, 7)], [(9, 9), (8, 9)], [(2, 0), (0, 4)])

    def test_lying_over_one_another(self):
        self.assert_strokes(False, [(0, 0), (6, 3)], [(4, 2), (10, 5)])
        self.assert_strokes(False, [(0, 0), (10, 5)], [(4, 2), (6, 3)])
        self.assert_strokes(False, [(4, 2), (6, 3)], [(0, 0), (10, 5)])
        self.assert_strokes(False, [(0, 0), (6, 3)], [(0, 0), (4, 2)])
        self.assert_strokes(False, [(0, 0), (6, 3), (4, 2)])
        self.assert_strokes(False, [(0, 7), (0, 3), (0, 9)])

    def test_an_end_in_the_midst(self):
        self.assert_strokes(False, [(0, 0), (10, 0)], [(5, 0), (5, 5)])
        self.assert_strokes(False, [(5, 5), (5, 0)], [(10, 0), (0, 0)])
        self.assert_strokes(False, [(0, 0), (9, 6)], [(3, 2), (3, 0)])
        self.assert_strokes(False, [(0, 0), (4, 0), (4, 4), (2, 0)])

    def test_the_same_two_ends(self):
        self.assert_strokes(False, [(0, 0), (1, 0)], [(0, 0), (1, 0)])
        self.assert_strokes(False, [(0, 0), (1, 0)], [(1, 0), (0, 0)])
        self.assert_strokes(False, [(0, 0), (1, 0), (0, 0)])
        self.assert_strokes(False, [(7, 7), (0, 0), (3, 5), (0, 0)])

    def test_well_met(self):
        self.assert_strokes(True, [(0, 0), (4, 2)], [(4, 2), (10, 5)])
        self.assert_strokes(True, [(0, 0), (4, 2)], [(6, 3), (10, 5)])
        self.assert_strokes(True, [(0, 0), (4, 2)], [(0, 1), (4, 3)])
        self.assert_strokes(True, [(0, 0), (4, 2)], [(0, 0), (4, 3)])
        self.assert_strokes(True, [(0, 0), (10, 0)], [(5, 1), (5, 5)])
        self.assert_strokes(True, [(0, 0), (10, 0)], [(11, 0), (5, 5)])

    def test_a_hair_apart_on_the_widest_sheet(self):
        slope = [(0, 0), (4095, 4094)]
        self.assert_strokes(True, slope, [(1, 1), (4094, 4094)])
        self.assert_strokes(True, slope, [(4094, 4093), (1, 0)])
        self.assert_strokes(False, slope, [(1, 1), (4094, 4093)])
        self.assert_strokes(True, slope, [(0, 0), (4094, 4093)])
        self.assert_strokes(False, [(0, 0), (4095, 4095)], [(0, 0), (4094, 4094)])
        self.assert_strokes(False, [(4095, 0), (0, 4095)], [(2048, 2047), (4095, 4095)])

    def test_with_any_piece_before_it(self):
        rows = [[(0, 3 * k), (9, 3 * k)] for k in range(20)]
        self.assert_strokes(True, *rows)
        for k in range(20):
            self.assert_strokes(False, *rows, [(4, 3 * k), (4, 3 * k + 1)])
            self.assert_strokes(False, *rows, [(4, 3 * k + 1), (5, 3 * k + 2), (6, 3 * k)])

    def test_all_pairs_on_a_small_sheet(self):
        points = [(x, y) for x in range(4) for y in range(4)]
        pieces = [(a, b) for a in points for b in points if a != b]
        for one in pieces:
            if one[0] < one[1]:
                for other in pieces:
                    t = drawing(one, other)
                    self.assertEqual(may(0, 1, 0, 0, t) == [-5], is_drawing(t), (one, other))

    def test_pairs_on_the_widest_sheet(self):
        source = random.Random(7)
        for turn in range(2000):
            start = (source.randrange(2000), source.randrange(2000))
            step = (source.randrange(20), source.randrange(1, 20))
            places = [source.randrange(100) for place in range(3)]
            nudge = (source.choice((0, 0, 1)), source.choice((0, 0, 1)))
            on_line = [(start[0] + k * step[0], start[1] + k * step[1]) for k in places]
            beside = (on_line[2][0] + nudge[0], on_line[2][1] + nudge[1])
            other = (source.randrange(4096), source.randrange(4096))
            t = drawing([on_line[0], on_line[1]], [beside, other])
            self.assertEqual(may(0, 1, 0, 0, t) == [-5], is_drawing(t), bytes(t))


class NineAtAPoint(TextCase):
    def star(self, count):
        return [[(20, 20), (20 + x, 20 + y)] for x, y in STAR[:count]]

    def test_eight_and_nine(self):
        for count in range(1, 11):
            rays = self.star(count)
            self.assert_strokes(count <= 8, *rays)
            self.assert_strokes(count <= 8, *[[goal, joint] for joint, goal in rays])
            self.assert_strokes(count <= 8, *rays[::-1])

    def test_strokes_that_go_through(self):
        rays = [goal for joint, goal in self.star(10)]
        through = [[rays[k], (20, 20), rays[k + 1]] for k in range(0, 10, 2)]
        self.assert_strokes(True, *through[:4])
        self.assert_strokes(False, *through)
        self.assert_strokes(False, *through[:4], [(20, 20), rays[8]])
        self.assert_strokes(False, *through[:4], [(40, 40), rays[8], (20, 20)])
        self.assert_strokes(False, [(20, 20), rays[8]], *through[:4])

    def test_eight_at_two_points(self):
        rays = self.star(8)
        again = [[(30 + x, 30 + y), (30, 30)] for x, y in STAR[:8]]
        self.assert_strokes(True, *rays, *again)
        self.assert_strokes(False, *rays, *again, [(30, 30), (31, 32)])
        self.assert_strokes(False, *rays, *again, [(21, 22), (20, 20)])


class ChangedTexts(TextCase):
    def test_each_byte_left_out_doubled_or_another(self):
        t = text("sign Ab9\nstroke 0,0 10,0 10,12\nstroke 4095,7 10,0\n")
        self.assert_text(t, True)
        for k in range(len(t)):
            changed = [t[:k] + t[k + 1:], t[:k] + [t[k]] + t[k:], t[:k]]
            for byte in text("\n ,0159aZ-\r\t\0\xff"):
                changed.append(t[:k] + [byte] + t[k:])
                changed.append(t[:k] + [byte] + t[k + 1:])
            for other in changed:
                self.assertEqual(may(0, 1, 0, 0, other) == [-5], is_drawing(other), bytes(other))


if __name__ == "__main__":
    unittest.main()
