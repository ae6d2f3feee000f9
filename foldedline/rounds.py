"""The calls on one folded line: reads a list of them, makes them in order, and tells what each answers."""

from foldedline.leaders import all_leaders, has_endless
from foldedline.line import covers_piece, has_round, lowest, places_from, put_over, way_into_round
from foldedline.order import brings_number

NONE_SUCH = -2
NOT_BEGUN = -11
NOT_AS_TOLD = -22
NO_MORE = -33
ENDLESS = -75

MOST_PIECES = 6
MOST_PARTS = 40
MOST_PLACES = 20
MOST_STEPS = 6
MOST_BROUGHT = 1000


class Line:
    """The object that the calls are made on; it has no points until it is begun.

    It keeps the leaders of its rounds, by their steps: there may be thousands, and each round is asked for by itself.
    """

    def __init__(self):
        self.points = []
        self.leaders = {}


def renew(line, points):
    line.points = points
    line.leaders = {}


def leaders_of(line, k):
    if k not in line.leaders:
        line.leaders[k] = all_leaders(line.points, k)
    return line.leaders[k]


def last_point(line):
    return len(line.points) - 1


def is_place(line, p, q):
    return 1 <= q <= MOST_PARTS and p <= last_point(line) * q


def is_steps(k):
    return 1 <= k <= MOST_STEPS


def as_fractions(places, q):
    """The places, each told as how many q-ths it is, as fractions one behind another."""
    told = []
    for place in places:
        told.extend(lowest(place, q))
    return told


def begin(line, numbers):
    n = numbers[0]
    if n < 1 or n > MOST_PIECES:
        return [NOT_AS_TOLD]
    renew(line, list(range(n + 1)))
    return [0]


def set_point(line, numbers):
    i = numbers[0]
    v = numbers[1]
    if i > last_point(line):
        return [NONE_SUCH]
    if v > last_point(line):
        return [NOT_AS_TOLD]
    points = list(line.points)
    points[i] = v
    was = line.points[i]
    renew(line, points)
    return [was]


def set_row(line, points):
    if len(points) != len(line.points) or max(points) > last_point(line):
        return [NOT_AS_TOLD]
    renew(line, list(points))
    return [0]


def put(line, numbers):
    p = numbers[0]
    q = numbers[1]
    if not is_place(line, p, q):
        return [NOT_AS_TOLD]
    return [0] + lowest(put_over(line.points, p, q), q)


def way(line, numbers):
    p = numbers[0]
    q = numbers[1]
    k = numbers[2]
    if not is_place(line, p, q) or k < 1 or k > MOST_PLACES:
        return [NOT_AS_TOLD]
    return [k] + as_fractions(places_from(line.points, p, q, k), q)


def comes(line, numbers):
    p = numbers[0]
    q = numbers[1]
    if not is_place(line, p, q):
        return [NOT_AS_TOLD]
    return way_into_round(line.points, p, q)


def covers(line, numbers):
    i = numbers[0]
    j = numbers[1]
    if i >= last_point(line) or j >= last_point(line):
        return [NONE_SUCH]
    return [1 if covers_piece(line.points, i, j) else 0]


def has(line, numbers):
    k = numbers[0]
    if not is_steps(k):
        return [NOT_AS_TOLD]
    return [1 if has_round(line.points, k) else 0]


def which(line, numbers):
    total = 0
    counting = 1
    for k in range(1, MOST_STEPS + 1):
        if has_round(line.points, k):
            total = total + counting
        counting = 2 * counting
    return [total]


def steps_refused(line, k):
    """Why the rounds of k steps can't be counted, or 0 if they can."""
    if not is_steps(k):
        return NOT_AS_TOLD
    if has_endless(line.points, k):
        return ENDLESS
    return 0


def round_refused(line, k, j):
    """Why the round of k steps before which there are j can't be told, or 0 if it can."""
    refusal = steps_refused(line, k)
    if refusal == 0 and j >= len(leaders_of(line, k)):
        return NO_MORE
    return refusal


def count_rounds(line, numbers):
    k = numbers[0]
    refusal = steps_refused(line, k)
    if refusal < 0:
        return [refusal]
    return [len(leaders_of(line, k))]


def tell_round(line, numbers):
    k = numbers[0]
    j = numbers[1]
    refusal = round_refused(line, k, j)
    if refusal < 0:
        return [refusal]
    leader = leaders_of(line, k)[j]
    return [k] + as_fractions(places_from(line.points, leader[0], leader[1], k), leader[1])


def count_less(places, place):
    return len([other for other in places if other < place])


def tell_ranks(line, numbers):
    k = numbers[0]
    j = numbers[1]
    refusal = round_refused(line, k, j)
    if refusal < 0:
        return [refusal]
    leader = leaders_of(line, k)[j]
    places = places_from(line.points, leader[0], leader[1], k)
    return [k] + [count_less(places, place) for place in places]


def brings(line, numbers):
    k = numbers[0]
    l = numbers[1]
    if min(k, l) < 1 or max(k, l) > MOST_BROUGHT:
        return [NOT_AS_TOLD]
    return [1 if brings_number(k, l) else 0]


def slope(line, numbers):
    i = numbers[0]
    if i >= last_point(line):
        return [NONE_SUCH]
    return [0, line.points[i + 1] - line.points[i]]


def turn(line, numbers):
    last = last_point(line)
    renew(line, [last - point for point in reversed(line.points)])
    return [0]


def state(line, numbers):
    return [last_point(line)] + line.points


BEGIN = 0
ROW = 2
# Both by the number of the call. How many numbers a row has stands in the list itself.
MAKERS = (begin, set_point, set_row, put, way, comes, covers, has,
          which, count_rounds, tell_round, tell_ranks, brings, slope, turn, state)
COUNTS = (1, 2, 0, 2, 3, 2, 2, 1,
          0, 1, 2, 2, 2, 1, 0, 0)


def make(line, call, numbers):
    """Makes one call: what it answers, the object changed if it was not refused."""
    if call != BEGIN and len(line.points) == 0:
        return [NOT_BEGUN]
    return MAKERS[call](line, numbers)


def answers(calls):
    """For each call on a new object, in order: how many numbers it answers, then these."""
    line = Line()
    told = []
    at = 0
    while at < len(calls):
        call = calls[at]
        first = at + 1
        count = COUNTS[call]
        if call == ROW:
            count = calls[first]
            first = first + 1
        answer = make(line, call, calls[first:first + count])
        told.append(len(answer))
        told.extend(answer)
        at = first + count
    return told
