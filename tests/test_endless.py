"""Point 3: endlessly many rounds, and those that can be counted on the same line."""

import itertools
import random
import unittest

import slow
from asking import ask, ask_of, begin, has, round_at, rounds, set_point, state, type_of

GREATEST = 4294967295
ALL = (1, 2, 3, 4, 5, 6)


def goals_of_cycle(cycle, turned):
    """Where points are put if each piece of the cycle is put onto the next, turned where told; None if it can't be."""
    goals = {}
    for piece, after, about in zip(cycle, cycle[1:] + cycle[:1], turned):
        for point, goal in ((piece, after + about), (piece + 1, after + 1 - about)):
            if goals.setdefault(point, goal) != goal:
                return None
    return goals


def cycles_back_in(n, k):
    """All ways in which pieces of a line of n come back as they lay in k steps and no sooner: where points are put.

    Either a cycle of k pieces, turned evenly often, or one of half as many, turned oddly often.
    """
    for length, odd in ((k, 0), (k // 2, 1)):
        if length * (1 + odd) != k:
            continue
        for cycle in itertools.permutations(range(n), length):
            if cycle[0] != min(cycle):
                continue
            for turned in itertools.product((0, 1), repeat=length):
                goals = goals_of_cycle(cycle, turned)
                if sum(turned) % 2 == odd and goals is not None:
                    yield goals


class Endless(unittest.TestCase):
    def assert_counts(self, points, *counts):
        self.assertEqual(ask_of(points, *[rounds(k) for k in ALL]), [[count] for count in counts], points)

    def test_of_one(self):
        for n in range(1, 7):
            self.assert_counts(range(n + 1), -75, 0, 0, 0, 0, 0)
        self.assert_counts((2, 1, 2), -75, 0, 0, 0, 0, 0)
        # The pieces 1 and 2 cover one another and themselves, as those of the tent do.
        self.assert_counts((0, 1, 3, 0), -75, 1, 2, 3, 6, 9)

    def test_of_two(self):
        # Turned about: the middle alone comes back in one step, and is a point if the number of pieces is even.
        for n in range(1, 7):
            self.assert_counts(range(n, -1, -1), 1, -75, 0, 0, 0, 0)
        told = ask_of((3, 2, 1, 0), round_at(1, 0), type_of(1, 0), round_at(1, 1))
        self.assertEqual(told, [[1, 3, 2], [1, 0], [-33]])
        self.assertEqual(ask_of((2, 1, 0), round_at(1, 0)), [[1, 1, 1]])
        # Two pieces that change places, unturned.
        self.assert_counts((2, 3, 0, 1), 1, -75, 0, 0, 0, 0)

    def test_of_three(self):
        self.assert_counts((2, 3, 4, 5, 0, 1), 1, 1, -75, 1, 2, 2)

    def test_of_four(self):
        self.assert_counts((2, 3, 1, 0), 1, 1, 0, -75, 0, 0)
        self.assertEqual(ask_of((2, 3, 1, 0), round_at(2, 0), type_of(2, 0)), [[2, 1, 2, 5, 2], [2, 0, 1]])
        self.assert_counts((3, 4, 5, 2, 1, 0), 1, 1, 0, -75, 0, 0)

    def test_of_five_on_no_line(self):
        # Five pieces of at most six lie in one row or two; the longer row could only be put onto itself.
        self.assertEqual([goals for n in range(1, 7) for goals in cycles_back_in(n, 5)], [])
        source = random.Random(23)
        for _ in range(200):
            told = ask_of([source.randrange(7) for _ in range(7)], rounds(5), round_at(5, GREATEST))
            self.assertGreaterEqual(told[0][0], 0)
            self.assertEqual(told[1], [-33])

    def test_of_six(self):
        self.assert_counts((2, 3, 4, 5, 1, 0), 1, 1, 2, 1, 2, -75)
        # The middles of the three pieces that come back turned about in three steps.
        told = ask_of((2, 3, 4, 5, 1, 0), round_at(3, 0), type_of(3, 0))
        self.assertEqual(told, [[3, 1, 2, 5, 2, 9, 2], [3, 0, 1, 2]])

    def test_points_that_come_back_as_soon_as_endlessly_many(self):
        # 0 and 1 change places with all between them, and 3 and 2.
        self.assert_counts((1, 0, 3, 2), 3, -75, 0, 0, 0, 0)
        # 0 and 2 are put onto themselves, but nothing between them.
        self.assert_counts((0, 2, 2), 2, 0, 0, 0, 0, 0)
        # The ends of piece 0 come back in two steps, but it is drawn out over two pieces on the way.
        drawn_out = (2, 4, 0, 3, 1)
        self.assert_counts(drawn_out, *[len(slow.rounds(drawn_out, k)) for k in ALL])
        self.assertEqual(ask_of(drawn_out, round_at(2, 0)), [[2, 0, 1, 2, 1]])

    def test_whatever_the_other_points_are(self):
        source = random.Random(29)
        met = set()
        for n in range(1, 7):
            for k in ALL:
                for goals in cycles_back_in(n, k):
                    points = [goals.get(point, source.randrange(n + 1)) for point in range(n + 1)]
                    told = ask_of(points, rounds(k), round_at(k, 0), type_of(k, 0), has(k))
                    self.assertEqual(told, [[-75], [-75], [-75], [1]], (points, k))
                    met.add(k)
        self.assertEqual(sorted(met), [1, 2, 3, 4, 6])

    def test_as_found_slowly(self):
        source = random.Random(31)
        for _ in range(12):
            n = source.choice((5, 6))
            k = source.choice((2, 3, 4, 6))
            goals = source.choice(list(cycles_back_in(n, k)))
            points = [goals.get(point, source.randrange(n + 1)) for point in range(n + 1)]
            found = [slow.rounds(points, steps) for steps in ALL]
            self.assert_counts(points, *[-75 if told is None else len(told) for told in found])

    def test_which_of_several_refusals(self):
        for points, k in (((0, 1), 1), ((1, 0), 2), ((2, 3, 4, 5, 0, 1), 3), ((2, 3, 1, 0), 4),
                          ((2, 3, 4, 5, 1, 0), 6)):
            for j in (0, 1, GREATEST):
                self.assertEqual(ask_of(points, round_at(k, j), type_of(k, j)), [[-75], [-75]])
                self.assertEqual(ask_of(points, round_at(0, j), type_of(7, j), rounds(7)), [[-22]] * 3)
            self.assertEqual(ask(rounds(k), round_at(k, 0), type_of(k, 0)), [[-11]] * 3)

    def test_refused_all_is_as_it_was_and_may_be_counted_behind_a_change(self):
        told = ask(begin(1), rounds(1), round_at(1, 0), type_of(1, 9), state(), set_point(1, 0), rounds(1),
                   round_at(1, 0))
        self.assertEqual(told, [[0], [-75], [-75], [-75], [1, 0, 1], [1], [1], [1, 0, 1]])


if __name__ == "__main__":
    unittest.main()
