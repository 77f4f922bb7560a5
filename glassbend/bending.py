"""The calls: what may be bent along a drawing."""

from glassbend.drawing import dot, read_pieces, shared_ends, way_from

MOST_BYTES = 65536
MOST_PARTS = 1000

NO_LIMIT = -1
TEXT_TOO_LONG = -2
NO_SUCH_PIECE = -4
NO_SUCH_BEND = -5
NO_DRAWING = -6


def may(c, d, i, j, t):
    """[1] if pieces i and j meet and that bend may be by c / d, [0] if it may not, or a refusal."""
    if len(t) > MOST_BYTES:
        return [TEXT_TOO_LONG]
    pieces = read_pieces(t)
    if pieces is None:
        return [NO_DRAWING]
    if not is_limit(c, d):
        return [NO_LIMIT]
    if i >= len(pieces) or j >= len(pieces):
        return [NO_SUCH_PIECE]
    if i == j:
        return [NO_SUCH_BEND]
    shared = shared_ends(pieces[i], pieces[j])
    if shared == []:
        return [NO_SUCH_BEND]
    if bend_may_be(way_from(pieces[i], shared[0]), way_from(pieces[j], shared[0]), c, d):
        return [1]
    return [0]


def is_limit(c, d):
    return 1 <= d and d <= MOST_PARTS and -d <= c and c <= d


def bend_may_be(u, v, c, d):
    """Whether the angle between the ways has a cosine of c / d or less."""
    # Squaring with the sign kept leaves the order as it is, and does without the root.
    return signed_square(dot(u, v) * d) <= signed_square(c) * dot(u, u) * dot(v, v)


def signed_square(number):
    return number * abs(number)
