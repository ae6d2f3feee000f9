"""What the tests share: calls written as the interface writes them, answers taken apart again, and lines to ask of."""

import itertools
import random

from foldedline.rounds import answers


def begin(n):
    return [0, n]


def set_point(i, v):
    return [1, i, v]


def row(*points):
    return [2, len(points)] + list(points)


def put(p, q):
    return [3, p, q]


def way(p, q, k):
    return [4, p, q, k]


def comes(p, q):
    return [5, p, q]


def covers(i, j):
    return [6, i, j]


def has(k):
    return [7, k]


def which():
    return [8]


def rounds(k):
    return [9, k]


def round_at(k, j):
    return [10, k, j]


def type_of(k, j):
    return [11, k, j]


def brings(k, l):
    return [12, k, l]


def slope(i):
    return [13, i]


def turn():
    return [14]


def state():
    return [15]


def joined(calls):
    return [number for call in calls for number in call]


def taken_apart(told):
    apart = []
    at = 0
    while at < len(told):
        end = at + 1 + told[at]
        apart.append(told[at + 1:end])
        at = end
    assert at == len(told), "the last answer is shorter than told"
    return apart


def ask(*calls):
    """The answers, a list for each call."""
    apart = taken_apart(answers(joined(calls)))
    assert len(apart) == len(calls), "not one answer for each call"
    return apart


def line(*points):
    """The calls that make a line whose points are put there."""
    return [begin(len(points) - 1), row(*points)]


def ask_of(points, *calls):
    """The answers to calls on the line whose points are put there."""
    apart = ask(*line(*points), *calls)
    assert apart[:2] == [[0], [0]], "the line was not made"
    return apart[2:]


def ask_many_of(points, calls):
    """The answers to however many calls on the line, none of which changes it: in lists of at most 400 calls."""
    told = []
    for start in range(0, len(calls), 398):
        told += ask_of(points, *calls[start:start + 398])
    return told


def places_in(answer):
    """The places in what a round or a way answers, each a pair."""
    return list(zip(answer[1::2], answer[2::2]))


def some_lines(count, seed):
    """All lines of one and two pieces, and count others of each number of pieces up to six."""
    lines = list(itertools.product(range(2), repeat=2)) + list(itertools.product(range(3), repeat=3))
    source = random.Random(seed)
    for n in range(3, 7):
        for _ in range(count):
            lines.append(tuple(source.randrange(n + 1) for _ in range(n + 1)))
    return lines


def where_all_are(n):
    """Calls that show where each point of a line with n pieces is put."""
    return [put(point, 1) for point in range(n + 1)]
