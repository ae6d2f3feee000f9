"""Point 3: which, rounds, round, type_of, where the rounds can be counted."""

import itertools
import random
import unittest
from fractions import Fraction

import slow
from asking import (ask, ask_many_of, ask_of, begin, has, places_in, round_at, rounds, row, set_point, turn, type_of,
                    which)

GREATEST = 4294967295
ALL = (1, 2, 3, 4, 5, 6)


def counts(points):
    """What rounds answers for 1 to 6 steps."""
    return [answer[0] for answer in ask_of(points, *[rounds(k) for k in ALL])]


def told_slowly(points, k):
    """What rounds, then round and type_of for each j and for the j behind the last are to answer."""
    found = slow.rounds(points, k)
    if found is None:
        return [[-75]] * 3
    told = [[len(found)]]
    for places in found:
        told.append([k] + [number for x in places for number in slow.told(x)])
        told.append([k] + slow.ranks(places))
    return told + [[-33], [-33]]


def asked(k, count):
    calls = [rounds(k)]
    for j in range(count + 1):
        calls += [round_at(k, j), type_of(k, j)]
    return calls


class AsFoundSlowly(unittest.TestCase):
    def assert_as_found(self, points):
        total = 0
        for k in ALL:
            found = told_slowly(points, k)
            self.assertEqual(ask_many_of(points, asked(k, max(found[0][0], 0))), found, (points, k))
            total += 0 if found[0] == [0] else 2 ** (k - 1)
        self.assertEqual(ask_of(points, which()), [[total]], points)

    def test_all_small_lines(self):
        for n in (1, 2, 3):
            for points in itertools.product(range(n + 1), repeat=n + 1):
                self.assert_as_found(points)

    def test_greater_lines(self):
        source = random.Random(13)
        for n in (4, 5, 6):
            for _ in range(16):
                self.assert_as_found(tuple(source.randrange(n + 1) for _ in range(n + 1)))

    def test_all_lines_whose_points_are_one_round(self):
        for n in (3, 4):
            for others in itertools.permutations(range(1, n + 1)):
                goals = dict(zip((0,) + others, others + (0,)))
                self.assert_as_found(tuple(goals[point] for point in range(n + 1)))

    def test_lines_that_come_back_in_whole_pieces(self):
        for points in ((2, 3, 4, 5, 0, 1), (2, 3, 4, 5, 1, 0), (3, 4, 5, 2, 1, 0), (0, 2, 1, 4, 3),
                       (6, 5, 4, 3, 2, 1, 0), (4, 5, 6, 3, 2, 1, 0), (0, 3, 4, 5, 6, 2, 1), (1, 2, 3, 4, 5, 6, 0)):
            self.assert_as_found(points)


class Which(unittest.TestCase):
    def assert_which(self, points, steps):
        self.assertEqual(ask_of(points, which()), [[sum(2 ** (k - 1) for k in steps)]], points)

    def test_three_and_so_all(self):
        self.assertEqual(ask_of((1, 2, 0), which()), [[63]])

    def test_five_and_none_of_three(self):
        self.assert_which((2, 4, 3, 1, 0), (1, 2, 4, 5, 6))

    def test_four_and_none_of_three(self):
        self.assertEqual(ask_of((2, 3, 1, 0), which()), [[1 + 2 + 8]])

    def test_six_of_twice_three(self):
        self.assert_which((3, 4, 5, 1, 2, 0), (1, 2, 4, 6))

    def test_two_alone(self):
        self.assert_which((3, 1, 2, 0), (1, 2))

    def test_one_piece(self):
        for points, steps in (((0, 1), (1,)), ((1, 0), (1, 2)), ((0, 0), (1,)), ((1, 1), (1,))):
            self.assert_which(points, steps)

    def test_all_put_onto_one_and_each_onto_itself(self):
        for n in range(1, 7):
            self.assertEqual(ask(begin(n), which(), row(*[n] * (n + 1)), which())[1::2], [[1], [1]])

    def test_endlessly_many_are_there_too(self):
        self.assert_which((2, 3, 4, 5, 0, 1), ALL)
        self.assert_which((2, 3, 4, 5, 1, 0), ALL)

    def test_as_has_tells(self):
        source = random.Random(17)
        for _ in range(300):
            n = source.randrange(1, 7)
            told = ask_of([source.randrange(n + 1) for _ in range(n + 1)], which(), *[has(k) for k in ALL])
            self.assertEqual(told[0][0], sum(answer[0] * 2 ** place for place, answer in enumerate(told[1:])))

    def test_not_begun(self):
        self.assertEqual(ask(which(), begin(0), which(), begin(7), which()), [[-11], [-22], [-11], [-22], [-11]])


class Rounds(unittest.TestCase):
    def test_a_round_of_three(self):
        self.assertEqual(counts((1, 2, 0)), [1, 1, 1, 1, 2, 2])

    def test_the_tent(self):
        # Behind k steps it is straight on 2 to the k stretches, each of which meets itself once.
        self.assertEqual(counts((0, 2, 0)), [2, 1, 2, 3, 6, 9])

    def test_all_pieces_over_all(self):
        self.assertEqual(counts((0, 6, 0, 6, 0, 6, 0)), [6, 15, 70, 315, 1554, 7735])
        self.assertEqual(counts((0, 3, 0, 3)), [3, 3, 8, 18, 48, 116])

    def test_all_put_onto_one(self):
        for n in range(1, 7):
            for v in range(n + 1):
                self.assertEqual(counts([v] * (n + 1)), [1, 0, 0, 0, 0, 0])

    def test_a_round_of_four_and_none_of_three(self):
        self.assertEqual(counts((4, 4, 3, 0, 2)), [1, 1, 0, 1, 0, 0])

    def test_six_of_twice_three(self):
        self.assertEqual(counts((3, 4, 5, 1, 2, 0)), [1, 1, 0, 1, 0, 1])
        self.assertEqual(counts((2, 4, 3, 3, 0)), [1, 2, 0, 1, 0, 2])

    def test_only_the_last_point(self):
        self.assertEqual(counts((1, 2, 2)), [1, 0, 0, 0, 0, 0])

    def test_refused_unless_one_to_six(self):
        for k in (0, 7, 8, GREATEST):
            self.assertEqual(ask_of((1, 2, 0), rounds(k)), [[-22]])

    def test_not_begun(self):
        for k in (1, 0, 7):
            self.assertEqual(ask(rounds(k), begin(7), rounds(k)), [[-11], [-22], [-11]])

    def test_none_just_where_has_tells_none(self):
        source = random.Random(19)
        for _ in range(200):
            n = source.randrange(1, 7)
            points = [source.randrange(n + 1) for _ in range(n + 1)]
            told = ask_of(points, *[has(k) for k in ALL])
            self.assertEqual([[0 if count == 0 else 1] for count in counts(points)], told, points)

    def test_asked_again_behind_each_change(self):
        told = ask(begin(2), row(1, 2, 0), rounds(6), rounds(3), set_point(0, 0), rounds(6), rounds(3), row(0, 2, 0),
                   rounds(6), rounds(3), turn(), round_at(1, 1), begin(1), rounds(6), rounds(3))
        self.assertEqual([told[place] for place in (2, 3, 5, 6, 8, 9, 11, 13, 14)],
                         [[2], [1], [9], [2], [9], [2], [1, 2, 1], [0], [0]])


class Round(unittest.TestCase):
    def test_from_the_least_place_on_as_they_come(self):
        told = ask_of((1, 2, 0), round_at(1, 0), round_at(2, 0), round_at(3, 0), round_at(4, 0))
        self.assertEqual(told, [[1, 4, 3], [2, 2, 3, 5, 3], [3, 0, 1, 1, 1, 2, 1],
                                [4, 4, 9, 13, 9, 10, 9, 16, 9]])

    def test_the_lesser_first(self):
        self.assertEqual(ask_of((1, 2, 0), round_at(5, 0), round_at(5, 1)),
                         [[5, 2, 9, 11, 9, 14, 9, 8, 9, 17, 9],
                          [5, 4, 15, 19, 15, 22, 15, 16, 15, 28, 15]])
        self.assertEqual(ask_of((0, 2, 0), round_at(1, 0), round_at(1, 1), round_at(3, 0), round_at(3, 1)),
                         [[1, 0, 1], [1, 4, 3], [3, 4, 9, 8, 9, 16, 9], [3, 4, 7, 8, 7, 12, 7]])

    def test_points_among_other_places(self):
        # 1 is a point, and between the others.
        told = ask_of((2, 1, 3, 0), round_at(1, 0), round_at(1, 1))
        self.assertEqual(told, [[1, 1, 1], [1, 9, 4]])
        told = ask_of((1, 0, 2), round_at(1, 0), round_at(1, 1), round_at(1, 2))
        self.assertEqual(told, [[1, 1, 2], [1, 2, 1], [-33]])

    def test_through_points_alone(self):
        self.assertEqual(ask_of((3, 3, 0, 0), round_at(2, 0), round_at(2, 1)), [[2, 0, 1, 3, 1], [-33]])
        self.assertEqual(ask_of((4, 3, 1, 0, 2), round_at(5, 0)), [[5, 0, 1, 4, 1, 2, 1, 1, 1, 3, 1]])

    def test_through_no_point(self):
        self.assertEqual(ask_of((1, 0), round_at(1, 0)), [[1, 1, 2]])
        self.assertEqual(ask_of((2, 3, 1, 0), round_at(2, 0), round_at(2, 1)), [[2, 1, 2, 5, 2], [-33]])

    def test_a_piece_put_onto_one_point(self):
        self.assertEqual(ask_of((3, 3, 0, 0), round_at(1, 0), round_at(1, 1)), [[1, 3, 2], [-33]])
        self.assertEqual(ask_of((1, 1, 1, 3), round_at(1, 0), round_at(1, 1), round_at(1, 2)),
                         [[1, 1, 1], [1, 3, 1], [-33]])

    def test_all_put_onto_one(self):
        for n in range(1, 7):
            for v in range(n + 1):
                told = ask_of([v] * (n + 1), round_at(1, 0), round_at(1, 1), round_at(2, 0))
                self.assertEqual(told, [[1, v, 1], [-33], [-33]])

    def test_the_last_point(self):
        self.assertEqual(ask_of((1, 2, 2), round_at(1, 0)), [[1, 2, 1]])
        self.assertEqual(ask_of((1, 2, 3, 3), round_at(1, 0), round_at(1, 1)), [[1, 3, 1], [-33]])

    def test_six_of_twice_three(self):
        self.assertEqual(ask_of((3, 4, 5, 1, 2, 0), round_at(6, 0), round_at(6, 1)),
                         [[6, 0, 1, 3, 1, 1, 1, 4, 1, 2, 1, 5, 1], [-33]])

    def test_behind_the_last_there_are_no_more(self):
        for j in (9, 10, GREATEST):
            self.assertEqual(ask_of((0, 2, 0), round_at(6, j), type_of(6, j)), [[-33], [-33]])
        self.assertEqual([len(answer) for answer in ask_of((0, 2, 0), round_at(6, 8), type_of(6, 8))], [13, 7])

    def test_where_there_are_none(self):
        for j in (0, 1, GREATEST):
            self.assertEqual(ask_of((0, 0, 0), round_at(6, j), type_of(6, j)), [[-33], [-33]])

    def test_refused_unless_one_to_six(self):
        for k in (0, 7, 8, GREATEST):
            for j in (0, 1, GREATEST):
                self.assertEqual(ask_of((1, 2, 0), round_at(k, j), type_of(k, j)), [[-22], [-22]])

    def test_not_begun(self):
        for k, j in ((1, 0), (0, 0), (7, 9), (6, GREATEST)):
            self.assertEqual(ask(round_at(k, j), type_of(k, j), begin(0), round_at(k, j), type_of(k, j)),
                             [[-11], [-11], [-22], [-11], [-11]])

    def test_many_of_six_each_once_and_in_order(self):
        points = (0, 6, 0, 6, 0, 6, 0)
        told = ask_many_of(points, [round_at(6, j) for j in range(7736)])
        self.assertEqual(told[7735], [-33])
        met = set()
        before = Fraction(-1)
        for answer in told[:7735]:
            places = [Fraction(p, q) for p, q in places_in(answer)]
            self.assertEqual([slow.image(points, x) for x in places], places[1:] + places[:1])
            self.assertEqual((answer[0], len(places), min(places)), (6, 6, places[0]))
            self.assertEqual([slow.told(x) for x in places], [list(pair) for pair in places_in(answer)])
            self.assertLess(before, places[0])
            before = places[0]
            met.update(places)
        self.assertEqual(len(met), 6 * 7735)


class TypeOf(unittest.TestCase):
    def test_how_many_are_less(self):
        told = ask_of((1, 2, 0), *[type_of(k, 0) for k in (1, 2, 3, 4, 5)], type_of(5, 1))
        self.assertEqual(told, [[1, 0], [2, 0, 1], [3, 0, 1, 2], [4, 0, 2, 1, 3], [5, 0, 2, 3, 1, 4],
                                [5, 0, 2, 3, 1, 4]])

    def test_three_steps_the_other_way(self):
        self.assertEqual(ask_of((2, 0, 1), type_of(3, 0)), [[3, 0, 2, 1]])

    def test_points_alone(self):
        self.assertEqual(ask_of((3, 3, 0, 0), type_of(2, 0)), [[2, 0, 1]])
        self.assertEqual(ask_of((1, 3, 2, 0, 3), type_of(3, 0)), [[3, 0, 1, 2]])

    def test_points_far_apart(self):
        # Of 0, 6 and 2 the type counts the places of the round, not the points of the line.
        self.assertEqual(ask_of((6, 6, 0, 0, 0, 0, 2), type_of(3, 0)), [[3, 0, 2, 1]])

    def test_six_of_twice_three(self):
        self.assertEqual(ask_of((3, 4, 5, 1, 2, 0), type_of(6, 0)), [[6, 0, 3, 1, 4, 2, 5]])

    def test_the_last_point(self):
        self.assertEqual(ask_of((1, 2, 2), type_of(1, 0), type_of(1, 1)), [[1, 0], [-33]])

    def test_of_each_round_of_six(self):
        points = (0, 6, 0, 6, 0, 6, 0)
        some = range(0, 7735, 31)
        told = ask_many_of(points, [call for j in some for call in (round_at(6, j), type_of(6, j))])
        for answer, kind in zip(told[::2], told[1::2]):
            places = [Fraction(p, q) for p, q in places_in(answer)]
            self.assertEqual(kind, [6] + slow.ranks(places))


if __name__ == "__main__":
    unittest.main()
