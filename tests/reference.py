"""What the tests share: drawings made short, and a second, slow reading of the document to compare with."""

import itertools
import math
import re
from fractions import Fraction

NUMBER = rb"(?:0|[1-9][0-9]*)"
LINES = re.compile(rb"sign [A-Za-z0-9]{1,12}\n(?:stroke(?: %b,%b){2,65}\n)+" % (NUMBER, NUMBER))


class Guarded(list):
    """A list that fails the test as soon as somebody changes it."""

    def refuse(self, *args, **kwargs):
        raise AssertionError("what was handed in was changed")

    append = clear = extend = insert = pop = remove = reverse = sort = refuse
    __setitem__ = __delitem__ = __iadd__ = __imul__ = refuse


def text(words):
    """The bytes of a written text, as a list."""
    return list(words.encode("latin-1"))


def drawing(*strokes):
    """The text of a drawing with these strokes, each a list of points."""
    lines = ["sign Probe"]
    for points in strokes:
        lines.append(" ".join(["stroke"] + [f"{x},{y}" for x, y in points]))
    return text("".join(line + "\n" for line in lines))


def corner(u, v):
    """The text of a drawing of one stroke of two pieces, whose ways from their joint are u and v."""
    joint = tuple(-min(0, p, q) for p, q in zip(u, v))
    ends = [(joint[0] + x, joint[1] + y) for x, y in (u, v)]
    return drawing([ends[0], joint, ends[1]])


def may_be(u, v, c, d):
    """1 if the angle between the ways has a cosine of c / d or less, else 0; by whole roots."""
    scaled = (u[0] * v[0] + u[1] * v[1]) * d
    square = c * c * (u[0] ** 2 + u[1] ** 2) * (v[0] ** 2 + v[1] ** 2)
    root = math.isqrt(square)
    if c >= 0:
        return int(scaled <= root)
    rounded_up = root if root * root == square else root + 1
    return int(-scaled >= rounded_up)


def meet_badly(one, other):
    """Whether two pieces share a point that isn't an end of both; by fractions along the pieces."""
    (a, b), (p, q) = one, other
    u = (b[0] - a[0], b[1] - a[1])
    v = (q[0] - p[0], q[1] - p[1])
    w = (p[0] - a[0], p[1] - a[1])
    slant = u[0] * v[1] - u[1] * v[0]
    if slant == 0:
        if u[0] * w[1] != u[1] * w[0]:
            return False
        ours, theirs = sorted(one), sorted(other)
        return max(ours[0], theirs[0]) < min(ours[1], theirs[1])
    along = Fraction(w[0] * v[1] - w[1] * v[0], slant)
    across = Fraction(w[0] * u[1] - w[1] * u[0], slant)
    if not (0 <= along <= 1 and 0 <= across <= 1):
        return False
    return along not in (0, 1) or across not in (0, 1)


def is_drawing(t):
    """Whether the text is a drawing's."""
    if LINES.fullmatch(bytes(t)) is None:
        return False
    pieces = []
    for line in bytes(t).split(b"\n")[1:-1]:
        points = [tuple(word.split(b",")) for word in line.split(b" ")[1:]]
        if any(len(number) > 4 for point in points for number in point):
            return False
        points = [(int(x), int(y)) for x, y in points]
        if max(max(point) for point in points) > 4095:
            return False
        pieces.extend(zip(points, points[1:]))
    if len(pieces) > 64 or any(a == b for a, b in pieces):
        return False
    ends = [end for piece in pieces for end in piece]
    if max(ends.count(end) for end in ends) > 8:
        return False
    return not any(meet_badly(one, other) for k, one in enumerate(pieces) for other in pieces[:k])


def points_around(middle, ways):
    return [(middle[0] + x, middle[1] + y) for x, y in ways]


def star(*ways, middle=(100, 100)):
    """Pieces that all begin at one point."""
    return [(middle, end) for end in points_around(middle, ways)]


def row(*points):
    """The pieces of one stroke."""
    return list(zip(points, points[1:]))


def turned(pieces, *numbers):
    """The same pieces, but those of these numbers with their ends changed over."""
    return [(b, a) if k in numbers else (a, b) for k, (a, b) in enumerate(pieces)]


def plan_with(pieces, *pairs):
    """The plan in which just these pairs of pieces go on into one another, each where they meet."""
    plan = [255] * (2 * len(pieces))
    for i, j in pairs:
        for k in (0, 1):
            for h in (0, 1):
                if pieces[i][k] == pieces[j][h]:
                    plan[2 * i + k] = j
                    plan[2 * j + h] = i
    return plan


def ends_of(pieces):
    """The points at which pieces end, in the order of a plan's places."""
    return [end for piece in pieces for end in piece]


def may_bend(pieces, i, j, joint, c, d):
    """Whether pieces i and j, which both end at the joint, may go on into one another there."""
    ways = []
    for piece in (pieces[i], pieces[j]):
        far = piece[1] if piece[0] == joint else piece[0]
        ways.append((far[0] - joint[0], far[1] - joint[1]))
    return may_be(ways[0], ways[1], c, d) == 1


def fault(pieces, plan, c, d):
    """The kind and the place of what is first wrong with the plan, or None."""
    if len(plan) != 2 * len(pieces):
        return (1, 0)
    ends = ends_of(pieces)
    for place, number in enumerate(plan):
        if number == 255:
            continue
        if number == place // 2 or number not in range(len(pieces)):
            return (2, place)
        there = [other for other in (2 * number, 2 * number + 1) if ends[other] == ends[place]]
        if not there:
            return (3, place)
        if plan[there[0]] != place // 2:
            return (4, place)
        if not may_bend(pieces, place // 2, number, ends[place], c, d):
            return (5, place)
    return None


def count_tubes(plan):
    """How many sets of pieces that go on into one another a right plan has."""
    sets = [{piece} for piece in range(len(plan) // 2)]
    for place, number in enumerate(plan):
        if number != 255:
            joined = [one for one in sets if place // 2 in one or number in one]
            sets = [one for one in sets if one not in joined] + [set().union(*joined)]
    return len(sets)


def right_plans(pieces, c, d):
    """All right plans: of all lists of pieces that end where a plan's places lie those without a fault."""
    ends = ends_of(pieces)
    offers = []
    for place, end in enumerate(ends):
        offers.append([255] + [k for k, piece in enumerate(pieces) if end in piece and k != place // 2])
    return [list(plan) for plan in itertools.product(*offers) if fault(pieces, plan, c, d) is None]


def ways_by_joint(pieces, c, d):
    """For each joint its ways to go on: all sets of pairs of places in which no place stands twice."""
    ends = ends_of(pieces)
    ways = []
    for joint in sorted(set(ends)):
        places = [place for place, end in enumerate(ends) if end == joint]
        bends = [(p, q) for p, q in itertools.combinations(places, 2) if may_bend(pieces, p // 2, q // 2, joint, c, d)]
        sets = [pairs for count in range(5) for pairs in itertools.combinations(bends, count)]
        ways.append([pairs for pairs in sets if len(set(sum(pairs, ()))) == 2 * len(pairs)])
    return ways


def count_ways(pieces, c, d):
    return math.prod(len(ways) for ways in ways_by_joint(pieces, c, d))


def plans_by_joint(pieces, c, d):
    """All right plans: of each joint's ways one."""
    plans = []
    for chosen in itertools.product(*ways_by_joint(pieces, c, d)):
        plan = [255] * (2 * len(pieces))
        for p, q in itertools.chain(*chosen):
            plan[p], plan[q] = q // 2, p // 2
        plans.append(plan)
    return plans


def least_of(plans):
    """How many tubes the plan found has, if these are all right plans, and its numbers."""
    return min([count_tubes(plan), *plan] for plan in plans)


def parts_of(pieces):
    """The parts, each a set of pieces' numbers."""
    parts = []
    for number, piece in enumerate(pieces):
        joined = [part for part in parts if any(set(piece) & set(pieces[other]) for other in part)]
        parts = [part for part in parts if part not in joined] + [{number}.union(*joined)]
    return parts


def random_pieces(source, count, size):
    """Up to so many pieces of a drawing, between points of a square of so many points a side."""
    pieces = []
    for turn in range(20 * count):
        one, other = [(source.randrange(size), source.randrange(size)) for end in range(2)]
        ends = ends_of(pieces)
        if len(pieces) == count or one == other or max(ends.count(one), ends.count(other)) == 8:
            continue
        if not any(meet_badly((one, other), piece) for piece in pieces):
            pieces.append((one, other))
    return pieces


def random_plan(source, pieces, c, d):
    """A right plan."""
    plan = [255] * (2 * len(pieces))
    ends = ends_of(pieces)
    places = list(range(len(plan)))
    source.shuffle(places)
    for p in places:
        for q in places:
            free = p // 2 != q // 2 and plan[p] == plan[q] == 255 and ends[p] == ends[q]
            if free and source.random() < 0.8 and may_bend(pieces, p // 2, q // 2, ends[p], c, d):
                plan[p], plan[q] = q // 2, p // 2
    return plan
