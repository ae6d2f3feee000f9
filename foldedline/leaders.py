"""All rounds of k steps, in order, each by its leader: its least place, p by q.

A round goes through points alone or through none. Each one through none belongs to one loop of pieces, of which each
covers the next; so they are all found by going through the loops.
"""

from foldedline.line import all_pieces, covers_piece, one_step_more, place_put_back, put_over, ways_back


def comes_back_whole(points, piece, k):
    """Whether k is the fewest steps behind which the whole piece is put onto itself, each place where it was."""
    start = piece
    end = piece + 1
    for step in range(1, k + 1):
        start = points[start]
        end = points[end]
        # Slopes are whole numbers: what was once drawn out, or put onto one point, never lies again as it lay.
        if abs(end - start) != 1:
            return False
        if start == piece and end == piece + 1:
            return step == k
    return False


def has_endless(points, k):
    """Whether there are endlessly many rounds of k steps.

    Places next to each other come back together only if nothing is drawn out on the way: then whole pieces do.
    """
    for piece in all_pieces(points):
        if comes_back_whole(points, piece, k):
            return True
    return False


def leads(points, p, q, k):
    """Whether p by q comes back in k steps and is the least place of its round."""
    at = p
    for step in range(1, k):
        at = put_over(points, at, q)
        if at <= p:
            return False
    return put_over(points, at, q) == p


def covered_among(points, piece, goals):
    """Those of goals that the piece covers."""
    return [goal for goal in goals if covers_piece(points, piece, goal)]


def longer_paths(points, paths, goals):
    """The paths that are one step longer and end in a piece of goals.

    A path is the piece it has come to, and the slope and the shift by which its places were put there. Paths stand in
    the order of their places, so that nothing is to be sorted in the end.
    """
    covered = [covered_among(points, piece, goals) for piece in all_pieces(points)]
    longer = []
    for path in paths:
        along = one_step_more(points, path[0], path[1], path[2])
        reached = covered[path[0]]
        # Where it falls the lesser places come to the greater pieces.
        if along[0] < 0:
            reached = list(reversed(reached))
        for goal in reached:
            longer.append((goal, along[0], along[1]))
    return longer


def places_of_loops(points, start, k):
    """The places that go through a loop of k pieces to where they were, in order.

    The loops begin with the piece start and have none before it: a round is found from its least place on.
    """
    ways = ways_back(points, start, k)
    paths = [(start, 1, 0)]
    for step in range(1, k + 1):
        paths = longer_paths(points, paths, ways[k - step])
    # Slope 1: the whole piece comes back, and sooner than in k steps unless there are endlessly many rounds.
    return [place_put_back(path[1], path[2]) for path in paths if path[1] != 1]


def leaders_within(points, piece, k):
    """The leaders that lie in the piece and are no points, in order."""
    leaders = []
    for place in places_of_loops(points, piece, k):
        p = place[0]
        q = place[1]
        # A point may lie on loops, too, but it is told among the points.
        if p % q != 0 and leads(points, p, q, k):
            leaders.append(place)
    return leaders


def all_leaders(points, k):
    """The leaders of all rounds of k steps, in order; there must not be endlessly many."""
    leaders = []
    for point in range(len(points)):
        if leads(points, point, 1, k):
            leaders.append([point, 1])
        if point < len(points) - 1:
            leaders.extend(leaders_within(points, point, k))
    return leaders
