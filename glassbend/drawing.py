"""Drawings: their text, their pieces, and how two pieces lie to one another.

A point is a pair (x, y), a piece the pair of its first and its second end,
a way a pair of whole numbers.
"""

LINE_END = 10
MOST_NAME_BYTES = 12
MOST_POINTS = 65
MOST_PIECES = 64
MOST_DEGREE = 8
MOST_COORDINATE = 4095
MOST_DIGITS = 4


def read_pieces(text):
    """The pieces of the drawing in their order, or None if the text is no drawing's."""
    lines = split_at(text, LINE_END)
    # The last part is what stands behind the last byte 10: it must be empty.
    if len(lines) < 3 or lines[-1] != []:
        return None
    if not is_sign_line(lines[0]):
        return None
    pieces = []
    for line in lines[1:-1]:
        points = read_stroke(line)
        # The count comes first: it keeps the comparing of pieces small.
        if points is None or len(pieces) + len(points) - 1 > MOST_PIECES:
            return None
        for k in range(len(points) - 1):
            piece = (points[k], points[k + 1])
            if not fits(piece, pieces):
                return None
            pieces.append(piece)
    return pieces


def split_at(values, mark):
    """The parts of the list before, between and behind the marks in it: one more than there are marks."""
    parts = []
    part = []
    for value in values:
        if value == mark:
            parts.append(part)
            part = []
        else:
            part.append(value)
    parts.append(part)
    return parts


def is_word(values, word):
    return values == [ord(sign) for sign in word]


def is_sign_line(line):
    words = split_at(line, ord(" "))
    return len(words) == 2 and is_word(words[0], "sign") and is_name(words[1])


def is_name(word):
    if len(word) < 1 or len(word) > MOST_NAME_BYTES:
        return False
    return all([is_digit(byte) or is_letter(byte) for byte in word])


def is_digit(byte):
    return ord("0") <= byte and byte <= ord("9")


def is_letter(byte):
    capital = ord("A") <= byte and byte <= ord("Z")
    small = ord("a") <= byte and byte <= ord("z")
    return capital or small


def read_stroke(line):
    """The stroke's points, or None if the line is no stroke's."""
    words = split_at(line, ord(" "))
    if not is_word(words[0], "stroke"):
        return None
    if len(words) - 1 < 2 or len(words) - 1 > MOST_POINTS:
        return None
    points = []
    for word in words[1:]:
        point = read_point(word)
        if point is None or points[-1:] == [point]:
            return None
        points.append(point)
    return points


def read_point(word):
    """The point, or None if the word tells none."""
    parts = split_at(word, ord(","))
    if len(parts) != 2:
        return None
    x = read_coordinate(parts[0])
    y = read_coordinate(parts[1])
    if x is None or y is None:
        return None
    return (x, y)


def read_coordinate(digits):
    """The coordinate, or None if these bytes tell none."""
    # Without needless 0s more digits are always too much, so that no long number is ever worked out.
    if len(digits) < 1 or len(digits) > MOST_DIGITS:
        return None
    if len(digits) > 1 and digits[0] == ord("0"):
        return None
    number = 0
    for digit in digits:
        if not is_digit(digit):
            return None
        number = number * 10 + digit - ord("0")
    if number > MOST_COORDINATE:
        return None
    return number


def fits(piece, pieces):
    """Whether the piece may stand behind these in a drawing."""
    if any([meet_badly(piece, other) for other in pieces]):
        return False
    return all([degree(end, pieces) < MOST_DEGREE for end in piece])


def degree(point, pieces):
    """How many of the pieces end at the point."""
    return len([piece for piece in pieces if point in piece])


def meet_badly(one, other):
    """Whether the pieces share a point that isn't an end of both."""
    shared = shared_ends(one, other)
    if shared == []:
        return touch(one, other)
    u = way_from(one, shared[0])
    v = way_from(other, shared[0])
    # From a shared end on they have more in common just if they set out the same way: so if both ends are shared, too.
    return cross(u, v) == 0 and dot(u, v) > 0


def shared_ends(one, other):
    return [end for end in one if end in other]


def touch(one, other):
    """Whether the pieces share any point at all."""
    # Two pieces in one line reach one another's line even where they lie apart: so the boxes.
    return reaches_line(one, other) and reaches_line(other, one) and boxes_overlap(one, other)


def reaches_line(one, other):
    """Whether the first piece has a point on the endless line through the other."""
    line = way(other[0], other[1])
    sides = [cross(line, way(other[0], end)) for end in one]
    return sides[0] * sides[1] <= 0


def boxes_overlap(one, other):
    return all([spans_overlap(one, other, axis) for axis in range(2)])


def spans_overlap(one, other, axis):
    ours = [end[axis] for end in one]
    theirs = [end[axis] for end in other]
    return max(ours) >= min(theirs) and max(theirs) >= min(ours)


def way(start, goal):
    return (goal[0] - start[0], goal[1] - start[1])


def way_from(piece, end):
    """The piece's way from one of its ends."""
    if piece[0] == end:
        return way(piece[0], piece[1])
    return way(piece[1], piece[0])


def dot(u, v):
    return u[0] * v[0] + u[1] * v[1]


def cross(u, v):
    return u[0] * v[1] - u[1] * v[0]
