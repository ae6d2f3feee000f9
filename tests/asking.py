"""What the tests share: calls written as the interface writes them, and answers taken apart again."""

from foldedline.rounds import answers


def begin(n):
    return [0, n]


def set_point(i, v):
    return [1, i, v]


def row(*points):
    return [2, len(points)] + list(points)


def put(p, q):
    return [3, p, q]


def way(p, q, k):
    return [4, p, q, k]


def comes(p, q):
    return [5, p, q]


def covers(i, j):
    return [6, i, j]


def has(k):
    return [7, k]


def joined(calls):
    return [number for call in calls for number in call]


def taken_apart(told):
    apart = []
    at = 0
    while at < len(told):
        end = at + 1 + told[at]
        apart.append(told[at + 1:end])
        at = end
    assert at == len(told), "the last answer is shorter than told"
    return apart


def ask(*calls):
    """The answers, a list for each call."""
    apart = taken_apart(answers(joined(calls)))
    assert len(apart) == len(calls), "not one answer for each call"
    return apart


def line(*points):
    """The calls that make a line whose points are put there."""
    return [begin(len(points) - 1), row(*points)]


def ask_of(points, *calls):
    """The answers to calls on the line whose points are put there."""
    apart = ask(*line(*points), *calls)
    assert apart[:2] == [[0], [0]], "the line was not made"
    return apart[2:]


def where_all_are(n):
    """Calls that show where each point of a line with n pieces is put."""
    return [put(point, 1) for point in range(n + 1)]
