"""Point 3: has."""

import itertools
import random
import unittest

import slow
from asking import ask, ask_of, begin, has

# Of 1 to 6, each brings all behind it.
BROUGHT_ORDER = (3, 5, 6, 4, 2, 1)
ALL = [1, 2, 3, 4, 5, 6]


def steps_had(points):
    told = ask_of(points, *[has(k) for k in ALL])
    return [k for k, answer in zip(ALL, told) if answer == [1]]


class Has(unittest.TestCase):
    def test_a_round_of_three_and_so_all(self):
        self.assertEqual(steps_had((1, 2, 0)), ALL)

    def test_a_round_of_five_and_none_of_three(self):
        self.assertEqual(steps_had((2, 4, 3, 1, 0)), [1, 2, 4, 5, 6])

    def test_a_round_of_four_and_none_of_three(self):
        self.assertEqual(steps_had((2, 3, 1, 0)), [1, 2, 4])

    def test_six_steps_of_twice_three(self):
        self.assertEqual(steps_had((3, 4, 5, 1, 2, 0)), [1, 2, 4, 6])

    def test_a_round_of_two_and_none_of_four(self):
        self.assertEqual(steps_had((3, 1, 2, 0)), [1, 2])

    def test_one_piece(self):
        self.assertEqual(steps_had((0, 1)), [1])
        self.assertEqual(steps_had((1, 0)), [1, 2])
        self.assertEqual(steps_had((0, 0)), [1])
        self.assertEqual(steps_had((1, 1)), [1])

    def test_all_points_put_onto_one(self):
        for n in range(1, 7):
            for v in range(n + 1):
                self.assertEqual(steps_had((v,) * (n + 1)), [1])

    def test_each_point_put_onto_itself(self):
        for n in range(1, 7):
            self.assertEqual(ask(begin(n), *[has(k) for k in ALL])[1:], [[1], [0], [0], [0], [0], [0]])

    def test_all_turned_about_the_middle(self):
        for n in range(1, 7):
            self.assertEqual(steps_had(tuple(range(n, -1, -1))), [1, 2])

    def test_a_round_through_points_alone(self):
        for points, k in (((3, 3, 0, 0), 2), ((1, 3, 2, 0, 3), 3), ((4, 4, 3, 0, 2), 4), ((3, 3, 5, 4, 2, 1), 5)):
            self.assertTrue(all(x.denominator == 1 for x in slow.places_back(points, k)))
            self.assertIn(k, steps_had(points))

    def test_a_round_through_no_point(self):
        for points in ((0, 2, 0), (1, 4, 0, 2, 0), (0, 3, 0, 3, 3)):
            through = [k for k in ALL if all(x.denominator > 1 for x in slow.places_back(points, k))]
            self.assertIn(6, through)
            self.assertEqual(steps_had(points), ALL)

    def test_the_one_place_of_a_round_of_one_is_no_point(self):
        self.assertEqual(slow.places_back((1, 0), 1), [slow.Fraction(1, 2)])
        self.assertEqual(slow.places_back((3, 3, 0, 0), 1), [slow.Fraction(3, 2)])
        self.assertEqual(ask_of((3, 3, 0, 0), has(1)), [[1]])

    def test_a_piece_put_onto_one_point(self):
        self.assertEqual(steps_had((3, 3, 0, 0)), [1, 2])
        self.assertEqual(steps_had((1, 1, 2)), [1])
        self.assertEqual(steps_had((1, 3, 2, 0, 3)), ALL)

    def test_only_the_last_point_comes_back(self):
        self.assertEqual(steps_had((1, 2, 2)), [1])
        self.assertEqual(steps_had((1, 2, 3, 4, 5, 6, 6)), [1])

    def test_refused_unless_one_to_six(self):
        for k in (0, 7, 8, 4294967295):
            self.assertEqual(ask_of((1, 2, 0), has(k)), [[-22]])

    def test_all_small_lines_as_found_slowly(self):
        for n in (1, 2, 3):
            for points in itertools.product(range(n + 1), repeat=n + 1):
                self.assertEqual(steps_had(points), [k for k in ALL if slow.has(points, k)], points)

    def test_greater_lines_as_found_slowly(self):
        source = random.Random(7)
        for n in (4, 5, 6):
            for _ in range(24):
                points = tuple(source.randrange(n + 1) for _ in range(n + 1))
                self.assertEqual(steps_had(points), [k for k in ALL if slow.has(points, k)], points)

    def test_all_lines_whose_points_are_one_round_as_found_slowly(self):
        for n in (3, 4):
            for others in itertools.permutations(range(1, n + 1)):
                row = dict(zip((0,) + others, others + (0,)))
                points = tuple(row[point] for point in range(n + 1))
                self.assertEqual(steps_had(points), [k for k in ALL if slow.has(points, k)], points)

    def test_what_is_brought_is_there(self):
        source = random.Random(11)
        for _ in range(1500):
            n = source.randrange(1, 7)
            had = steps_had(tuple(source.randrange(n + 1) for _ in range(n + 1)))
            first = min(BROUGHT_ORDER.index(k) for k in had)
            self.assertEqual(had, sorted(BROUGHT_ORDER[first:]))


if __name__ == "__main__":
    unittest.main()
