"""A line put onto itself: points[i] is where the point i is put, and the last point is how many pieces there are.

A place is p by q. Points are put onto points, so what comes of a place is again so many q-ths:
a walk keeps its q and moves p alone.
"""


def lowest(p, q):
    """The fraction p by q with nothing in common, as a list of two numbers."""
    common = p
    rest = q
    while rest > 0:
        after = common % rest
        common = rest
        rest = after
    return [p // common, q // common]


def put_over(points, p, q):
    """Of how many q-ths the place is onto which p by q is put."""
    piece = p // q
    into = p % q
    start = points[piece]
    # The last point begins no piece, so no end is looked up where nothing is left of the way.
    if into == 0:
        return start * q
    return start * q + (points[piece + 1] - start) * into


def places_from(points, p, q, k):
    """The place p by q and what comes of it, k places in all, each as how many q-ths it is."""
    places = []
    at = p
    for step in range(k):
        places.append(at)
        at = put_over(points, at, q)
    return places


def way_into_round(points, p, q):
    """Behind how many steps p by q is in a round, and how many steps that round has."""
    met = {}
    at = p
    # There are only so many q-ths on the line, so one is met again at last.
    while at not in met:
        met[at] = len(met)
        at = put_over(points, at, q)
    return [met[at], len(met) - met[at]]


def comes_back_in(points, p, q, k):
    """Whether k is the fewest steps behind which p by q is where it was."""
    at = p
    for step in range(1, k + 1):
        at = put_over(points, at, q)
        if at == p:
            return step == k
    return False


def covers_piece(points, i, j):
    """Whether piece j lies between where the two ends of piece i are put."""
    low = min(points[i], points[i + 1])
    high = max(points[i], points[i + 1])
    return low <= j and j + 1 <= high


def covers_some(points, i, goals):
    """Whether piece i covers one of the pieces in goals."""
    for goal in goals:
        if covers_piece(points, i, goal):
            return True
    return False


def all_pieces(points):
    """All pieces of the line, in order."""
    return list(range(len(points) - 1))


def ways_back(points, start, k):
    """At m, for m from 0 to k: the pieces from which m coverings can lead to the piece start, none before it.

    A loop may be begun at any of its pieces, so it is enough to find it where it begins at its first on the line.
    """
    ways = [[start]]
    for step in range(k):
        goals = ways[step]
        ways.append([piece for piece in all_pieces(points)[start:] if covers_some(points, piece, goals)])
    return ways


def one_step_more(points, piece, slope, shift):
    """If x was put onto slope * x + shift, which is in the piece: the slope and the shift behind one step more."""
    steep = points[piece + 1] - points[piece]
    return [steep * slope, steep * (shift - piece) + points[piece]]


def place_put_back(slope, shift):
    """The one place that is put onto itself where x is put onto slope * x + shift, the slope not 1: p and q."""
    if slope > 1:
        return [-shift, slope - 1]
    return [shift, 1 - slope]


def place_of_loop(points, loop):
    """A place that goes through the pieces of loop, each covering the one behind it, to where it was: p and q."""
    along = [1, 0]
    for piece in loop:
        along = one_step_more(points, piece, along[0], along[1])
    # Slope 1: each piece of the loop is put onto just the one behind it, and the first at last onto itself as it lies.
    # All its places are then where they were; a third of the way in is never a middle, about which a piece is
    # turned, so it comes back no sooner than nearly all of them.
    if along[0] == 1:
        return [3 * loop[0] + 1, 3]
    return place_put_back(along[0], along[1])


def loop_comes_back(points, loop, ways, k):
    """Whether a loop of k pieces that begins with those in loop has a place that comes back in k steps.

    Only pieces in ways are taken: else paths that never lead back would be walked in their thousands.
    """
    left = k - len(loop)
    if left == 0:
        place = place_of_loop(points, loop)
        return comes_back_in(points, place[0], place[1], k)
    for piece in ways[left]:
        if covers_piece(points, loop[-1], piece) and loop_comes_back(points, loop + [piece], ways, k):
            return True
    return False


def has_round(points, k):
    """Whether some place comes back in k steps.

    A round goes through points alone or through none, for points are put onto points. If through none, each of
    the pieces it goes through covers the next one, and so they are a loop.
    """
    for point in range(len(points)):
        if comes_back_in(points, point, 1, k):
            return True
    for start in all_pieces(points):
        ways = ways_back(points, start, k)
        if start in ways[k] and loop_comes_back(points, [start], ways, k):
            return True
    return False
