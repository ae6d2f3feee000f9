"""The calls on one folded line: reads a list of them, makes them in order, and tells what each answers."""

from foldedline.line import covers_piece, has_round, lowest, places_from, put_over, way_into_round

NONE_SUCH = -2
NOT_BEGUN = -11
NOT_AS_TOLD = -22

MOST_PIECES = 6
MOST_PARTS = 40
MOST_PLACES = 20
MOST_STEPS = 6


class Line:
    """The object that the calls are made on; it has no points until it is begun."""

    def __init__(self):
        self.points = []


def last_point(line):
    return len(line.points) - 1


def is_place(line, p, q):
    return 1 <= q <= MOST_PARTS and p <= last_point(line) * q


def begin(line, numbers):
    n = numbers[0]
    if n < 1 or n > MOST_PIECES:
        return [NOT_AS_TOLD]
    line.points = list(range(n + 1))
    return [0]


def set_point(line, numbers):
    i = numbers[0]
    v = numbers[1]
    if i > last_point(line):
        return [NONE_SUCH]
    if v > last_point(line):
        return [NOT_AS_TOLD]
    was = line.points[i]
    line.points[i] = v
    return [was]


def set_row(line, points):
    if len(points) != len(line.points) or max(points) > last_point(line):
        return [NOT_AS_TOLD]
    line.points = list(points)
    return [0]


def put(line, numbers):
    p = numbers[0]
    q = numbers[1]
    if not is_place(line, p, q):
        return [NOT_AS_TOLD]
    return [0] + lowest(put_over(line.points, p, q), q)


def way(line, numbers):
    p = numbers[0]
    q = numbers[1]
    k = numbers[2]
    if not is_place(line, p, q) or k < 1 or k > MOST_PLACES:
        return [NOT_AS_TOLD]
    answer = [k]
    for place in places_from(line.points, p, q, k):
        answer.extend(lowest(place, q))
    return answer


def comes(line, numbers):
    p = numbers[0]
    q = numbers[1]
    if not is_place(line, p, q):
        return [NOT_AS_TOLD]
    return way_into_round(line.points, p, q)


def covers(line, numbers):
    i = numbers[0]
    j = numbers[1]
    if i >= last_point(line) or j >= last_point(line):
        return [NONE_SUCH]
    return [1 if covers_piece(line.points, i, j) else 0]


def has(line, numbers):
    k = numbers[0]
    if k < 1 or k > MOST_STEPS:
        return [NOT_AS_TOLD]
    return [1 if has_round(line.points, k) else 0]


BEGIN = 0
ROW = 2
# Both by the number of the call. How many numbers a row has stands in the list itself.
MAKERS = (begin, set_point, set_row, put, way, comes, covers, has)
COUNTS = (1, 2, 0, 2, 3, 2, 2, 1)


def make(line, call, numbers):
    """Makes one call: what it answers, the object changed if it was not refused."""
    if call != BEGIN and len(line.points) == 0:
        return [NOT_BEGUN]
    return MAKERS[call](line, numbers)


def answers(calls):
    """For each call on a new object, in order: how many numbers it answers, then these."""
    line = Line()
    told = []
    at = 0
    while at < len(calls):
        call = calls[at]
        first = at + 1
        count = COUNTS[call]
        if call == ROW:
            count = calls[first]
            first = first + 1
        answer = make(line, call, calls[first:first + count])
        told.append(len(answer))
        told.extend(answer)
        at = first + count
    return told
