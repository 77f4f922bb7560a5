"""What the tests share: drawings made short, and a second, slow reading of the document to compare with."""

import math
import re
from fractions import Fraction

NUMBER = rb"(?:0|[1-9][0-9]*)"
LINES = re.compile(rb"sign [A-Za-z0-9]{1,12}\n(?:stroke(?: %b,%b){2,65}\n)+" % (NUMBER, NUMBER))


class Guarded(list):
    """A list that fails the test as soon as somebody changes it."""

    def refuse(self, *args, **kwargs):
        raise AssertionError("what was handed in was changed")

    append = clear = extend = insert = pop = remove = reverse = sort = refuse
    __setitem__ = __delitem__ = __iadd__ = __imul__ = refuse


def text(words):
    """The bytes of a written text, as a list."""
    return list(words.encode("latin-1"))


def drawing(*strokes):
    """The text of a drawing with these strokes, each a list of points."""
    lines = ["sign Probe"]
    for points in strokes:
        lines.append(" ".join(["stroke"] + [f"{x},{y}" for x, y in points]))
    return text("".join(line + "\n" for line in lines))


def corner(u, v):
    """The text of a drawing of one stroke of two pieces, whose ways from their joint are u and v."""
    joint = tuple(-min(0, p, q) for p, q in zip(u, v))
    ends = [(joint[0] + x, joint[1] + y) for x, y in (u, v)]
    return drawing([ends[0], joint, ends[1]])


def may_be(u, v, c, d):
    """1 if the angle between the ways has a cosine of c / d or less, else 0; by whole roots."""
    scaled = (u[0] * v[0] + u[1] * v[1]) * d
    square = c * c * (u[0] ** 2 + u[1] ** 2) * (v[0] ** 2 + v[1] ** 2)
    root = math.isqrt(square)
    if c >= 0:
        return int(scaled <= root)
    rounded_up = root if root * root == square else root + 1
    return int(-scaled >= rounded_up)


def meet_badly(one, other):
    """Whether two pieces share a point that isn't an end of both; by fractions along the pieces."""
    (a, b), (p, q) = one, other
    u = (b[0] - a[0], b[1] - a[1])
    v = (q[0] - p[0], q[1] - p[1])
    w = (p[0] - a[0], p[1] - a[1])
    slant = u[0] * v[1] - u[1] * v[0]
    if slant == 0:
        if u[0] * w[1] != u[1] * w[0]:
            return False
        ours, theirs = sorted(one), sorted(other)
        return max(ours[0], theirs[0]) < min(ours[1], theirs[1])
    along = Fraction(w[0] * v[1] - w[1] * v[0], slant)
    across = Fraction(w[0] * u[1] - w[1] * u[0], slant)
    if not (0 <= along <= 1 and 0 <= across <= 1):
        return False
    return along not in (0, 1) or across not in (0, 1)


def is_drawing(t):
    """Whether the text is a drawing's."""
    if LINES.fullmatch(bytes(t)) is None:
        return False
    pieces = []
    for line in bytes(t).split(b"\n")[1:-1]:
        points = [tuple(word.split(b",")) for word in line.split(b" ")[1:]]
        if any(len(number) > 4 for point in points for number in point):
            return False
        points = [(int(x), int(y)) for x, y in points]
        if max(max(point) for point in points) > 4095:
            return False
        pieces.extend(zip(points, points[1:]))
    if len(pieces) > 64 or any(a == b for a, b in pieces):
        return False
    ends = [end for piece in pieces for end in piece]
    if max(ends.count(end) for end in ends) > 8:
        return False
    return not any(meet_badly(one, other) for k, one in enumerate(pieces) for other in pieces[:k])
