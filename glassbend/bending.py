"""The calls: what may be bent along a drawing, and plans of such bends.

Place 2 i of a plan stands for piece i's first end, place 2 i + 1 for its second end.
"""

from glassbend.drawing import MOST_COORDINATE, dot, read_pieces, shared_ends, way_from

MOST_BYTES = 65536
MOST_PARTS = 1000
MOST_WAYS = 4096

NO_LIMIT = -1
TEXT_TOO_LONG = -2
NO_SUCH_PIECE = -4
NO_SUCH_BEND = -5
NO_DRAWING = -6
TOO_MANY_WAYS = -8
PLAN_NOT_RIGHT = -9

NO_PIECE = 255

NO_FAULT = 0
WRONG_LENGTH = 1
NOT_ANOTHER_PIECE = 2
ENDS_ELSEWHERE = 3
NOT_TOLD_BACK = 4
TOO_SHARP = 5


def may(c, d, i, j, t):
    """[1] if pieces i and j meet and that bend may be by c / d, [0] if it may not, or a refusal."""
    return of_drawing(c, d, t, lambda pieces: may_of(pieces, i, j, c, d))


def judge(c, d, t, plan):
    """[how many tubes the plan has] if it is right by c / d, [-9, kind, place] if it isn't, or a refusal."""
    return of_drawing(c, d, t, lambda pieces: judge_of(pieces, plan, c, d))


def tubes(t, plan):
    """[how many tubes the plan has, then what is told of each of them], or a refusal."""
    # The limit 1 / 1 lets any bend be.
    return of_drawing(1, 1, t, lambda pieces: tubes_of(pieces, plan))


def fewest(c, d, t):
    """[how many tubes the plan found by c / d has, then the plan's numbers], or a refusal."""
    return of_drawing(c, d, t, lambda pieces: fewest_of(pieces, c, d))


def angle(x, y, z, w, c, d):
    """[1] if the two ways' angle has a cosine of c / d or less, [0] if more, [2] if a way or the limit is none."""
    u = (x, y)
    v = (z, w)
    if not is_way(u) or not is_way(v) or not is_limit(c, d):
        return [2]
    return [1 if bend_may_be(u, v, c, d) else 0]


def of_drawing(c, d, t, answer):
    """What is answered of the text's pieces, or the refusal of the text or the limit, which goes ahead of it."""
    if len(t) > MOST_BYTES:
        return [TEXT_TOO_LONG]
    pieces = read_pieces(t)
    if pieces is None:
        return [NO_DRAWING]
    if not is_limit(c, d):
        return [NO_LIMIT]
    return answer(pieces)


def may_of(pieces, i, j, c, d):
    if i >= len(pieces) or j >= len(pieces):
        return [NO_SUCH_PIECE]
    if i == j:
        return [NO_SUCH_BEND]
    shared = shared_ends(pieces[i], pieces[j])
    if shared == []:
        return [NO_SUCH_BEND]
    return [1 if may_go_on(pieces[i], pieces[j], shared[0], c, d) else 0]


def judge_of(pieces, plan, c, d):
    fault = find_fault(pieces, plan, c, d)
    if fault is not None:
        return [PLAN_NOT_RIGHT] + fault
    return [len(find_tubes(pieces, plan))]


def tubes_of(pieces, plan):
    if find_fault(pieces, plan, 1, 1) is not None:
        return [PLAN_NOT_RIGHT]
    found = find_tubes(pieces, plan)
    answer = [len(found)]
    for tube in found:
        answer.extend(tell_tube(plan, tube))
    return answer


def fewest_of(pieces, c, d):
    ways = list_ways(pieces, c, d)
    if ways is None:
        return [TOO_MANY_WAYS]
    return find_fewest(pieces, right_plans(pieces, ways))


def is_limit(c, d):
    return 1 <= d and d <= MOST_PARTS and -d <= c and c <= d


def is_way(u):
    """Whether this may be a piece's way from one of its ends."""
    return u != (0, 0) and all([abs(number) <= MOST_COORDINATE for number in u])


def may_go_on(one, other, joint, c, d):
    """Whether a tube may go on at the joint from one of these pieces into the other."""
    return bend_may_be(way_from(one, joint), way_from(other, joint), c, d)


def bend_may_be(u, v, c, d):
    """Whether the angle between the ways has a cosine of c / d or less."""
    # Squaring with the sign kept leaves the order as it is, and does without the root.
    return signed_square(dot(u, v) * d) <= signed_square(c) * dot(u, u) * dot(v, v)


def signed_square(number):
    return number * abs(number)


def find_fault(pieces, plan, c, d):
    """[kind, place] of what is wrong first with the plan, or None if it is right by c / d."""
    if len(plan) != 2 * len(pieces):
        return [WRONG_LENGTH, 0]
    for place in range(len(plan)):
        kind = fault_at(pieces, plan, place, c, d)
        if kind != NO_FAULT:
            return [kind, place]
    return None


def fault_at(pieces, plan, place, c, d):
    """The kind of what is wrong first at the place, or NO_FAULT."""
    piece = place // 2
    following = plan[place]
    if following == NO_PIECE:
        return NO_FAULT
    if following >= len(pieces) or following == piece:
        return NOT_ANOTHER_PIECE
    joint = joint_at(pieces, place)
    if joint not in pieces[following]:
        return ENDS_ELSEWHERE
    if plan[place_of(pieces, following, joint)] != piece:
        return NOT_TOLD_BACK
    if not may_go_on(pieces[piece], pieces[following], joint, c, d):
        return TOO_SHARP
    return NO_FAULT


def joint_at(pieces, place):
    return pieces[place // 2][place % 2]


def place_of(pieces, piece, joint):
    """The place in a plan of the piece's end at the joint."""
    return 2 * piece + pieces[piece].index(joint)


def find_tubes(pieces, plan):
    """The tubes of a right plan in their order, each as the places at which it comes into its pieces."""
    # From the loose ends on come all rows, each from its lesser end piece. What is left then are rings:
    # not before, since a row's least piece may lie in its midst.
    loose = [place for place in range(len(plan)) if plan[place] == NO_PIECE]
    firsts = [2 * piece for piece in range(len(pieces))]
    found = []
    told = {}
    for start in loose + firsts:
        if start // 2 not in told:
            tube = go_through(pieces, plan, start)
            found.append(tube)
            for place in tube:
                told[place // 2] = True
    return sorted(found)


def tell_tube(plan, tube):
    """How many pieces it has, 1 if it is a ring, else 0, and each piece's number and 1 if it is turned, else 0."""
    # Only a ring comes into its first piece out of another one.
    told = [len(tube), 0 if plan[tube[0]] == NO_PIECE else 1]
    for place in tube:
        told.extend([place // 2, place % 2])
    return told


def go_through(pieces, plan, start):
    """The places at which the tube that comes into a piece at start comes into its pieces, from that one on."""
    tube = [start]
    place = place_behind(pieces, plan, start)
    while place is not None and place != start:
        tube.append(place)
        place = place_behind(pieces, plan, place)
    return tube


def place_behind(pieces, plan, place):
    """Where the tube that comes into a piece at the place comes into the next piece, or None if it ends."""
    # A piece's two places are an even number and the odd one behind it.
    leaving = place ^ 1
    if plan[leaving] == NO_PIECE:
        return None
    return place_of(pieces, plan[leaving], joint_at(pieces, leaving))


def find_fewest(pieces, plans):
    """[how many tubes it has, then its numbers] of the plan with the fewest tubes, of several such the least."""
    best = [len(pieces)] + no_bends(pieces)
    for plan in plans:
        # Two loose ends make a row, and rings only add to the rows: most plans needn't be gone through.
        if plan.count(NO_PIECE) // 2 <= best[0]:
            best = min(best, [len(find_tubes(pieces, plan))] + plan)
    return best


def no_bends(pieces):
    """The plan in which no piece goes on."""
    return [NO_PIECE] * (2 * len(pieces))


def list_ways(pieces, c, d):
    """The ways to go on at each joint where there is a choice, or None if the drawing has too many ways."""
    ways = []
    count = 1
    for places in places_by_joint(pieces):
        choices = choose_pairs(pieces, places, c, d)
        count = count * len(choices)
        if count > MOST_WAYS:
            return None
        if len(choices) > 1:
            ways.append(choices)
    return ways


def places_by_joint(pieces):
    by_joint = {}
    for place in range(2 * len(pieces)):
        by_joint.setdefault(joint_at(pieces, place), []).append(place)
    return list(by_joint.values())


def choose_pairs(pieces, places, c, d):
    """All choices of pairs of these places of one joint, each place in at most one pair, each bend one that may be."""
    if places == []:
        return [[]]
    first = places[0]
    rest = places[1:]
    choices = []
    for other in rest:
        if may_go_on(pieces[first // 2], pieces[other // 2], joint_at(pieces, first), c, d):
            left = [place for place in rest if place != other]
            for choice in choose_pairs(pieces, left, c, d):
                choices.append([(first, other)] + choice)
    # Last, so that plans with many pairs come early.
    return choices + choose_pairs(pieces, rest, c, d)


def right_plans(pieces, ways):
    """All right plans, given the ways to go on at each joint."""
    plans = [no_bends(pieces)]
    for choices in ways:
        longer = []
        for plan in plans:
            for choice in choices:
                longer.append(with_pairs(plan, choice))
        plans = longer
    return plans


def with_pairs(plan, pairs):
    """A copy of the plan in which these places go on into one another, too."""
    changed = list(plan)
    for pair in pairs:
        changed[pair[0]] = pair[1] // 2
        changed[pair[1]] = pair[0] // 2
    return changed
