"""Point 2: put, way, comes, covers, slope."""

import itertools
import unittest
from fractions import Fraction

import slow
from asking import ask, ask_of, begin, comes, covers, put, set_point, slope, some_lines, way

GREATEST = 4294967295
NOT_PLACES = ((0, 0), (1, 0), (0, 41), (1, 41), (3, 1), (5, 2), (81, 40), (GREATEST, 1), (1, GREATEST),
              (GREATEST, GREATEST), (GREATEST, 0), (GREATEST, 40))


def some_places(n):
    return [(p, q) for q in (1, 2, 3, 7, 12, 40) for p in range(n * q + 1)]


class Put(unittest.TestCase):
    def test_straight_between(self):
        told = ask_of((2, 0, 1), put(1, 2), put(1, 4), put(3, 4), put(3, 2), put(5, 3))
        self.assertEqual(told, [[0, 1, 1], [0, 3, 2], [0, 1, 2], [0, 1, 2], [0, 2, 3]])

    def test_nothing_in_common(self):
        self.assertEqual(ask_of((0, 1, 2), put(20, 40), put(30, 20), put(40, 40)), [[0, 1, 2], [0, 3, 2], [0, 1, 1]])
        self.assertEqual(ask_of((2, 0, 1), put(10, 40)), [[0, 3, 2]])

    def test_nought_is_nought_by_one(self):
        self.assertEqual(ask_of((2, 0, 1), put(7, 7), put(1, 1)), [[0, 0, 1]] * 2)
        self.assertEqual(ask(begin(3), put(0, 40), put(0, 1))[1:], [[0, 0, 1]] * 2)

    def test_last_point(self):
        self.assertEqual(ask_of((2, 0, 1), put(2, 1), put(80, 40), put(79, 40)), [[0, 1, 1], [0, 1, 1], [0, 39, 40]])

    def test_one_piece(self):
        self.assertEqual(ask_of((1, 0), put(0, 1), put(1, 3), put(1, 1)), [[0, 1, 1], [0, 2, 3], [0, 0, 1]])

    def test_piece_put_onto_one_point(self):
        self.assertEqual(ask_of((2, 2, 0), put(0, 1), put(1, 3), put(1, 1)), [[0, 2, 1]] * 3)

    def test_all_put_onto_one(self):
        self.assertEqual(ask_of((1, 1, 1), put(0, 1), put(1, 3), put(5, 3), put(2, 1)), [[0, 1, 1]] * 4)

    def test_not_places(self):
        for p, q in NOT_PLACES:
            self.assertEqual(ask_of((2, 0, 1), put(p, q)), [[-22]])

    def test_as_found_slowly(self):
        for points in some_lines(3, 5):
            places = some_places(len(points) - 1)
            found = [[0] + slow.told(slow.image(points, Fraction(p, q))) for p, q in places]
            for start in range(0, len(places), 300):
                calls = [put(p, q) for p, q in places[start:start + 300]]
                self.assertEqual(ask_of(points, *calls), found[start:start + 300])


class Way(unittest.TestCase):
    def test_begins_with_the_place_itself(self):
        self.assertEqual(ask_of((2, 0, 1), way(1, 4, 1)), [[1, 1, 4]])
        self.assertEqual(ask_of((2, 0, 1), way(10, 40, 1)), [[1, 1, 4]])

    def test_what_comes_of_it(self):
        self.assertEqual(ask_of((2, 0, 1), way(1, 4, 5)), [[5, 1, 4, 3, 2, 1, 2, 1, 1, 0, 1]])
        self.assertEqual(ask_of((1, 2, 0), way(2, 1, 4)), [[4, 2, 1, 0, 1, 1, 1, 2, 1]])

    def test_twenty_places(self):
        self.assertEqual(ask_of((1, 0), way(1, 3, 20)), [[20] + [1, 3, 2, 3] * 10])

    def test_each_point_put_onto_itself(self):
        self.assertEqual(ask(begin(2), way(6, 4, 3)), [[0], [3, 3, 2, 3, 2, 3, 2]])

    def test_how_many_are_refused(self):
        for k in (0, 21, 22, GREATEST):
            self.assertEqual(ask_of((2, 0, 1), way(1, 4, k)), [[-22]])

    def test_not_places(self):
        for p, q in NOT_PLACES:
            self.assertEqual(ask_of((2, 0, 1), way(p, q, 1), way(p, q, 0)), [[-22]] * 2)

    def test_as_found_slowly(self):
        for points in some_lines(3, 5):
            for p, q in ((0, 1), (1, 2), (5, 12), (len(points) - 1, 1), (37, 40)):
                found = [20]
                for k in range(20):
                    found += slow.told(slow.again(points, Fraction(p, q), k))
                self.assertEqual(ask_of(points, way(p, q, 20)), [found])


class Comes(unittest.TestCase):
    def test_in_a_round_already(self):
        self.assertEqual(ask_of((1, 2, 0), comes(0, 1), comes(1, 1), comes(2, 1), comes(4, 3)),
                         [[0, 3], [0, 3], [0, 3], [0, 1]])

    def test_behind_some_steps(self):
        # 1/4, 3/2, 1/2, 1, 0, 2 and then 1 again.
        self.assertEqual(ask_of((2, 0, 1), comes(1, 4), comes(3, 2), comes(1, 2), comes(1, 1)),
                         [[3, 3], [2, 3], [1, 3], [0, 3]])

    def test_however_it_is_told(self):
        self.assertEqual(ask_of((2, 0, 1), comes(10, 40), comes(2, 8)), [[3, 3], [3, 3]])

    def test_more_than_six_steps(self):
        self.assertEqual(ask_of((1, 2, 3, 4, 5, 6, 0), comes(0, 1)), [[0, 7]])
        # In 37ths: 1, 2, then 4 8 16 32 64 20 40 68 12 24 48 52 44 60 28 56 36 72 and 4 again.
        self.assertEqual(ask_of((0, 2, 0), comes(1, 37), comes(2, 37), comes(4, 37)), [[2, 18], [1, 18], [0, 18]])

    def test_all_put_onto_one(self):
        self.assertEqual(ask_of((1, 1, 1), comes(0, 1), comes(1, 1), comes(2, 1), comes(1, 3)),
                         [[1, 1], [0, 1], [1, 1], [1, 1]])

    def test_each_point_put_onto_itself(self):
        self.assertEqual(ask(begin(6), comes(0, 1), comes(7, 3), comes(6, 1))[1:], [[0, 1]] * 3)

    def test_one_piece(self):
        self.assertEqual(ask_of((1, 0), comes(0, 1), comes(1, 2), comes(1, 3), comes(1, 1)),
                         [[0, 2], [0, 1], [0, 2], [0, 2]])

    def test_piece_put_onto_one_point(self):
        self.assertEqual(ask_of((3, 3, 0, 0), comes(1, 2), comes(0, 1), comes(5, 2), comes(3, 2), comes(4, 3)),
                         [[1, 2], [0, 2], [1, 2], [0, 1], [2, 2]])

    def test_not_places(self):
        for p, q in NOT_PLACES:
            self.assertEqual(ask_of((2, 0, 1), comes(p, q)), [[-22]])

    def test_as_found_slowly(self):
        for points in some_lines(2, 5):
            n = len(points) - 1
            places = [(p, q) for q in (1, 5, 8, 37) for p in range(0, n * q + 1, 1 + q // 8)]
            found = [slow.comes(points, Fraction(p, q)) for p, q in places]
            self.assertEqual(ask_of(points, *[comes(p, q) for p, q in places]), found)

    def test_behind_so_many_steps_it_is_in_a_round_of_so_many(self):
        for points in some_lines(2, 5):
            for p, q in ((1, 3), (1, 5), (2, 9), (7, 8)):
                told = ask_of(points, comes(p, q), way(p, q, 20))
                before, steps = told[0]
                places = list(zip(told[1][1::2], told[1][2::2]))
                if before + steps < 20:
                    self.assertEqual(places[before + steps], places[before])
                    self.assertEqual(len(set(places[:before + steps])), before + steps)


class Covers(unittest.TestCase):
    def test_between_where_its_ends_are_put(self):
        told = ask_of((1, 3, 0, 0), *[covers(i, j) for i in range(3) for j in range(3)])
        self.assertEqual(told, [[0], [1], [1], [1], [1], [1], [0], [0], [0]])

    def test_each_point_put_onto_itself(self):
        told = ask(begin(3), *[covers(i, j) for i in range(3) for j in range(3)])[1:]
        self.assertEqual(told, [[1], [0], [0], [0], [1], [0], [0], [0], [1]])

    def test_all_put_onto_one(self):
        self.assertEqual(ask_of((1, 1, 1), covers(0, 0), covers(0, 1), covers(1, 0), covers(1, 1)), [[0]] * 4)

    def test_one_piece(self):
        self.assertEqual(ask_of((1, 0), covers(0, 0)), [[1]])
        self.assertEqual(ask_of((0, 0), covers(0, 0)), [[0]])

    def test_no_such_piece(self):
        for i, j in ((3, 0), (0, 3), (3, 3), (4, 0), (0, 4), (GREATEST, 0), (0, GREATEST), (GREATEST, GREATEST)):
            self.assertEqual(ask_of((0, 3, 0, 3), covers(i, j)), [[-2]])

    def test_as_found_slowly(self):
        for points in some_lines(20, 5):
            pairs = [(i, j) for i in range(len(points) - 1) for j in range(len(points) - 1)]
            found = [[slow.covers(points, i, j)] for i, j in pairs]
            self.assertEqual(ask_of(points, *[covers(i, j) for i, j in pairs]), found)


class Slope(unittest.TestCase):
    def test_rising_falling_and_level(self):
        self.assertEqual(ask_of((1, 3, 0, 0), slope(0), slope(1), slope(2)), [[0, 2], [0, -3], [0, 0]])

    def test_steepest(self):
        told = ask_of((6, 0, 6, 0, 6, 0, 6), *[slope(i) for i in range(6)])
        self.assertEqual(told, [[0, -6], [0, 6]] * 3)

    def test_one_piece(self):
        for points, told in (((0, 1), 1), ((1, 0), -1), ((0, 0), 0), ((1, 1), 0)):
            self.assertEqual(ask_of(points, slope(0)), [[0, told]])

    def test_each_point_put_onto_itself(self):
        self.assertEqual(ask(begin(6), *[slope(i) for i in range(6)])[1:], [[0, 1]] * 6)

    def test_all_put_onto_one(self):
        self.assertEqual(ask_of((2, 2, 2), slope(0), slope(1)), [[0, 0], [0, 0]])

    def test_the_last_point_moved(self):
        self.assertEqual(ask(begin(3), set_point(3, 0), slope(2), slope(1))[2:], [[0, -2], [0, 1]])

    def test_no_such_piece(self):
        for i in (3, 4, GREATEST):
            self.assertEqual(ask_of((0, 3, 0, 3), slope(i)), [[-2]])
        self.assertEqual(ask_of((1, 0), slope(1)), [[-2]])

    def test_not_begun(self):
        for i in (0, 6, GREATEST):
            self.assertEqual(ask(slope(i), begin(7), slope(i)), [[-11], [-22], [-11]])

    def test_all_lines_of_three_pieces(self):
        for points in itertools.product(range(4), repeat=4):
            told = ask_of(points, slope(0), slope(1), slope(2))
            self.assertEqual(told, [[0, points[i + 1] - points[i]] for i in range(3)])


if __name__ == "__main__":
    unittest.main()
