"""What holds, a, b and e, over many lines."""

import random
import unittest
from fractions import Fraction

import slow
from asking import (ask_many_of, ask_of, begin, brings, comes, has, places_in, put, round_at, rounds, row, set_point,
                    slope, some_lines, state, turn, type_of, way, which)

GREATEST = 4294967295
ALL = (1, 2, 3, 4, 5, 6)


def counts(points):
    return [answer[0] for answer in ask_of(points, *[rounds(k) for k in ALL])]


def told_rounds(points, k, count):
    """All rounds of k steps as the program tells them, each a list of places."""
    told = ask_many_of(points, [round_at(k, j) for j in range(count)])
    return [[Fraction(p, q) for p, q in places_in(answer)] for answer in told]


class WhatIsBroughtIsThere(unittest.TestCase):
    def test_of_the_rounds_told(self):
        pairs = [(k, l) for k in ALL for l in ALL]
        told = ask_of((0, 1), *[brings(k, l) for k, l in pairs])
        brought = [pair for pair, answer in zip(pairs, told) if answer == [1]]
        self.assertEqual(len(brought), 21)
        for points in some_lines(120, 37):
            there = {k for k, count in zip(ALL, counts(points)) if count != 0}
            for k, l in brought:
                if k in there:
                    self.assertIn(l, there, points)

    def test_of_longer_rounds_that_places_come_into(self):
        source = random.Random(41)
        for points in some_lines(60, 43):
            n = len(points) - 1
            places = [(source.randrange(n * 37 + 1), 37) for _ in range(20)] + [(point, 1) for point in range(n + 1)]
            steps = sorted({answer[1] for answer in ask_of(points, *[comes(p, q) for p, q in places])})
            told = ask_of(points, which(), *[brings(k, l) for k in steps for l in ALL])
            for place, answer in enumerate(told[1:]):
                if answer == [1]:
                    self.assertTrue(told[0][0] & 2 ** (place % 6), points)

    def test_with_one_of_three_there_are_all(self):
        met = 0
        for points in some_lines(60, 47):
            told = ask_of(points, has(3), which())
            if told[0] == [1]:
                met += 1
                self.assertEqual(told[1], [63], points)
        self.assertGreater(met, 50)


class AllRoundsAreTold(unittest.TestCase):
    def test_each_is_a_round_told_once_and_in_order(self):
        for points in some_lines(24, 53):
            for k, count in zip(ALL, counts(points)):
                found = told_rounds(points, k, max(count, 0))
                for places in found:
                    self.assertEqual(len(set(places)), k)
                    self.assertEqual([slow.image(points, x) for x in places], places[1:] + places[:1])
                    self.assertEqual(min(places), places[0])
                leaders = [places[0] for places in found]
                self.assertEqual(leaders, sorted(set(leaders)))
                self.assertEqual(len({x for places in found for x in places}), k * len(found))

    def test_no_other_place_comes_back(self):
        for points in some_lines(6, 59):
            for k, count in zip(ALL, counts(points)):
                if count >= 0:
                    places = sorted(x for told in told_rounds(points, k, count) for x in told)
                    self.assertEqual(places, slow.places_back(points, k), (points, k))

    def test_what_comes_into_a_round_of_up_to_six_finds_it_told(self):
        for points in some_lines(10, 61):
            told = {k: {tuple(places) for places in told_rounds(points, k, max(count, 0))} if count >= 0 else None
                    for k, count in zip(ALL, counts(points))}
            for p, q in ((1, 3), (2, 5), (3, 7), (4, 9), (len(points) - 1, 1), (0, 1), (5, 11)):
                before, k = ask_of(points, comes(p, q))[0]
                if k > 6 or told[k] is None:
                    continue
                places = [slow.again(points, Fraction(p, q), before + step) for step in range(k)]
                least = places.index(min(places))
                self.assertIn(tuple(places[least:] + places[:least]), told[k], points)

    def test_as_the_calls_themselves_tell(self):
        points = (2, 4, 3, 1, 0)
        for k, count in zip(ALL, counts(points)):
            for answer in ask_many_of(points, [round_at(k, j) for j in range(count)]):
                small = [(p, q) for p, q in places_in(answer) if q <= 40]
                told = ask_of(points, *[comes(p, q) for p, q in small])
                self.assertEqual(told, [[0, k]] * len(small))
                if len(small) == k:
                    self.assertEqual(ask_of(points, way(*small[0], k)), [answer])


class TurnedAbout(unittest.TestCase):
    def test_as_many_rounds(self):
        for points in some_lines(60, 67):
            calls = [rounds(k) for k in ALL] + [which()]
            told = ask_of(points, *calls, turn(), *calls, turn(), *calls)
            self.assertEqual(told[:7], told[8:15], points)
            self.assertEqual(told[:7], told[16:], points)

    def test_the_same_rounds_from_the_other_end(self):
        for points in some_lines(12, 71):
            n = len(points) - 1
            turned = ask_of(points, turn(), state())[1][1:]
            for k, count in zip(ALL, counts(points)):
                there = {frozenset(places) for places in told_rounds(points, k, max(count, 0))}
                back = {frozenset(n - x for x in places) for places in told_rounds(turned, k, max(count, 0))}
                self.assertEqual(there, back, points)

    def test_turned_back_all_is_as_it_was(self):
        for points in some_lines(20, 73):
            looks = [state(), which(), put(1, 3), round_at(1, 0), type_of(2, 0), slope(0)]
            told = ask_of(points, *looks, turn(), turn(), *looks)
            self.assertEqual(told[:6], told[8:], points)


class WhatIsRefusedChangesNothing(unittest.TestCase):
    def test_each_among_questions(self):
        looks = [state(), which(), rounds(1), rounds(2), round_at(2, 0), type_of(6, 1), slope(0), put(1, 3)]
        refused = [begin(0), begin(7), set_point(7, 0), set_point(0, 7), row(), row(0), row(*[9] * 7), rounds(0),
                   rounds(GREATEST), round_at(7, 0), round_at(1, GREATEST), type_of(0, 0), type_of(2, GREATEST),
                   brings(0, 1), brings(1, 1001), slope(6), slope(GREATEST), has(7), way(0, 1, 21), comes(7, 1)]
        for points in some_lines(8, 79):
            before = ask_of(points, *looks)
            for call in refused:
                told = ask_of(points, *looks, call, *looks)
                self.assertEqual(told[:8] + told[9:], before + before, (points, call))
                self.assertEqual(len(told[8]), 1)
                self.assertLess(told[8][0], 0, (points, call))


if __name__ == "__main__":
    unittest.main()
