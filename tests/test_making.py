"""Point 1: begin, set, row, turn, state."""

import itertools
import unittest

from asking import (ask, ask_of, begin, covers, has, line, put, round_at, rounds, row, set_point, slope, state, turn,
                    where_all_are)

GREATEST = 4294967295


class Begin(unittest.TestCase):
    def test_each_point_is_put_onto_itself(self):
        for n in range(1, 7):
            told = ask(begin(n), *where_all_are(n))
            self.assertEqual(told, [[0]] + [[0, point, 1] for point in range(n + 1)])

    def test_there_are_no_more_points_than_told(self):
        for n in range(1, 7):
            self.assertEqual(ask(begin(n), put(n + 1, 1), set_point(n + 1, 0)), [[0], [-22], [-2]])

    def test_refused_unless_one_to_six(self):
        for n in (0, 7, 8, GREATEST):
            self.assertEqual(ask(begin(n)), [[-22]])

    def test_begun_again_all_is_new(self):
        self.assertEqual(ask(*line(2, 0, 1), begin(2), *where_all_are(2))[2:], [[0], [0, 0, 1], [0, 1, 1], [0, 2, 1]])
        self.assertEqual(ask(*line(2, 0, 1), begin(1), put(2, 1), put(1, 1))[2:], [[0], [-22], [0, 1, 1]])

    def test_refused_all_is_as_it_was(self):
        for n in (0, 7, GREATEST):
            told = ask_of((2, 0, 1), begin(n), *where_all_are(2))
            self.assertEqual(told, [[-22], [0, 2, 1], [0, 0, 1], [0, 1, 1]])


class Set(unittest.TestCase):
    def test_answers_where_it_was_put(self):
        told = ask(begin(3), set_point(1, 3), set_point(1, 0), set_point(1, 0), set_point(2, 2), *where_all_are(3))
        self.assertEqual(told, [[0], [1], [3], [0], [2], [0, 0, 1], [0, 0, 1], [0, 2, 1], [0, 3, 1]])

    def test_first_and_last_point(self):
        told = ask(begin(3), set_point(3, 0), set_point(0, 3), *where_all_are(3))
        self.assertEqual(told, [[0], [3], [0], [0, 3, 1], [0, 1, 1], [0, 2, 1], [0, 0, 1]])

    def test_places_between_follow(self):
        self.assertEqual(ask(begin(2), set_point(1, 2), put(1, 2), put(3, 2)), [[0], [1], [0, 1, 1], [0, 2, 1]])

    def test_no_first_point(self):
        for i in (4, 5, GREATEST):
            self.assertEqual(ask(begin(3), set_point(i, 0)), [[0], [-2]])

    def test_no_second_point(self):
        for v in (4, 5, GREATEST):
            self.assertEqual(ask(begin(3), set_point(3, v)), [[0], [-22]])

    def test_neither_point(self):
        self.assertEqual(ask(begin(3), set_point(4, 4), set_point(GREATEST, GREATEST)), [[0], [-2], [-2]])

    def test_refused_all_is_as_it_was(self):
        told = ask_of((2, 0, 1), set_point(3, 1), set_point(1, 3), *where_all_are(2))
        self.assertEqual(told, [[-2], [-22], [0, 2, 1], [0, 0, 1], [0, 1, 1]])


class Row(unittest.TestCase):
    def test_points_are_put_there(self):
        told = ask(begin(3), row(3, 1, 1, 0), *where_all_are(3))
        self.assertEqual(told, [[0], [0], [0, 3, 1], [0, 1, 1], [0, 1, 1], [0, 0, 1]])

    def test_one_piece_and_six(self):
        self.assertEqual(ask_of((1, 0), *where_all_are(1)), [[0, 1, 1], [0, 0, 1]])
        six = (6, 0, 5, 1, 4, 2, 3)
        self.assertEqual(ask_of(six, *where_all_are(6)), [[0, v, 1] for v in six])

    def test_not_a_point_for_each(self):
        for points in ((), (0,), (0, 1), (0, 1, 2, 0), (0,) * 10):
            self.assertEqual(ask(begin(2), row(*points)), [[0], [-22]])

    def test_not_points(self):
        for points in ((3, 0, 0), (0, 3, 0), (0, 0, 3), (0, 0, GREATEST)):
            self.assertEqual(ask(begin(2), row(*points)), [[0], [-22]])

    def test_refused_all_is_as_it_was(self):
        for points in ((), (0, 0), (1, 1, 3), (1, 1, 1, 1)):
            told = ask_of((2, 0, 1), row(*points), *where_all_are(2))
            self.assertEqual(told, [[-22], [0, 2, 1], [0, 0, 1], [0, 1, 1]])

    def test_set_behind_a_row(self):
        self.assertEqual(ask_of((2, 0, 1), set_point(2, 2), put(2, 1), put(0, 1)), [[1], [0, 2, 1], [0, 2, 1]])

    def test_what_is_asked_behind_follows(self):
        told = ask(begin(2), has(3), covers(0, 1), row(1, 2, 0), has(3), covers(0, 1), row(0, 0, 0), has(3), covers(0, 1))
        self.assertEqual(told, [[0], [0], [0], [0], [1], [1], [0], [0], [0]])


class State(unittest.TestCase):
    def test_each_point_put_onto_itself(self):
        for n in range(1, 7):
            self.assertEqual(ask(begin(n), state()), [[0], [n] + list(range(n + 1))])

    def test_how_many_pieces_then_where_each_point_is_put(self):
        for points in ((1, 0), (0, 0), (2, 0, 1), (3, 1, 1, 0), (6, 0, 5, 1, 4, 2, 3)):
            self.assertEqual(ask_of(points, state()), [[len(points) - 1] + list(points)])

    def test_behind_each_change(self):
        told = ask(begin(2), row(1, 2, 0), state(), set_point(2, 2), state(), turn(), state(), begin(1), state())
        self.assertEqual(told[2::2], [[2, 1, 2, 0], [2, 1, 2, 2], [2, 0, 0, 1], [1, 0, 1]])

    def test_asked_twice(self):
        self.assertEqual(ask_of((2, 0, 1), state(), state()), [[2, 2, 0, 1]] * 2)

    def test_not_begun(self):
        self.assertEqual(ask(state(), begin(7), state()), [[-11], [-22], [-11]])


class Turn(unittest.TestCase):
    def test_an_even_number_of_pieces(self):
        self.assertEqual(ask_of((2, 0, 1), turn(), state()), [[0], [2, 1, 2, 0]])
        self.assertEqual(ask_of((0, 0, 0, 0, 3), turn(), state()), [[0], [4, 1, 4, 4, 4, 4]])

    def test_an_odd_number_of_pieces(self):
        self.assertEqual(ask_of((3, 1, 1, 0), turn(), state()), [[0], [3, 3, 2, 2, 0]])
        self.assertEqual(ask_of((0, 3, 3, 1, 5, 4), turn(), state()), [[0], [5, 1, 0, 4, 2, 2, 5]])

    def test_one_piece(self):
        for points, turned in (((0, 1), (0, 1)), ((1, 0), (1, 0)), ((0, 0), (1, 1)), ((1, 1), (0, 0))):
            self.assertEqual(ask_of(points, turn(), state()), [[0], [1] + list(turned)])

    def test_each_point_put_onto_itself(self):
        for n in range(1, 7):
            self.assertEqual(ask(begin(n), turn(), state()), [[0], [0], [n] + list(range(n + 1))])

    def test_all_put_onto_one(self):
        self.assertEqual(ask_of((0, 0, 0, 0), turn(), state()), [[0], [3, 3, 3, 3, 3]])

    def test_all_small_lines_once_and_twice(self):
        for n in (1, 2, 3):
            for points in itertools.product(range(n + 1), repeat=n + 1):
                turned = [0] * (n + 1)
                for point, goal in enumerate(points):
                    turned[n - point] = n - goal
                told = ask_of(points, turn(), state(), turn(), state())
                self.assertEqual(told, [[0], [n] + turned, [0], [n] + list(points)])

    def test_what_is_asked_behind_follows(self):
        looks = [put(1, 3), slope(0), covers(0, 2), rounds(1), round_at(1, 0)]
        told = ask_of((2, 2, 0, 1), *looks, turn(), *looks)
        self.assertEqual(told[:5], [[0, 2, 1], [0, 0], [0], [1], [1, 4, 3]])
        self.assertEqual(told[5:], [[0], [0, 7, 3], [0, 1], [1], [1], [1, 5, 3]])

    def test_not_begun(self):
        self.assertEqual(ask(turn(), begin(0), turn(), begin(1), turn()), [[-11], [-22], [-11], [0], [0]])


if __name__ == "__main__":
    unittest.main()
