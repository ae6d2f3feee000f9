"""Inner parts of has, of which its answer alone does not show whether each is right."""

import itertools
import unittest
from fractions import Fraction

import slow
from foldedline.line import comes_back_in, place_of_loop, ways_back

LINES = ((0, 2, 0), (1, 2, 0), (0, 3, 0, 3), (2, 3, 1, 0), (3, 0, 3, 0), (0, 1, 3, 2), (1, 0, 3, 3), (4, 0, 3, 1, 2))


def loops(points, k):
    pieces = range(len(points) - 1)
    for loop in itertools.product(pieces, repeat=k):
        if all(slow.covers(points, i, j) for i, j in zip(loop, loop[1:] + loop[:1])):
            yield loop


class Loops(unittest.TestCase):
    def test_the_place_goes_through_the_loop_to_where_it_was(self):
        for points in LINES:
            for k in range(1, 5):
                for loop in loops(points, k):
                    place = place_of_loop(points, list(loop))
                    at = Fraction(place[0], place[1])
                    self.assertGreater(place[1], 0)
                    for piece in loop:
                        self.assertTrue(piece <= at <= piece + 1, (points, loop))
                        at = slow.image(points, at)
                    self.assertEqual(at, Fraction(place[0], place[1]), (points, loop))

    def test_rising_loop_through_no_point(self):
        # 4 by 7 goes to 8 by 7 and 12 by 7 in the tent and back, turned twice: the slope is 8.
        self.assertEqual(Fraction(*place_of_loop([0, 2, 0], [0, 1, 1])), Fraction(4, 7))

    def test_where_all_of_a_piece_comes_back_the_place_is_not_its_middle(self):
        for points, loop in (((1, 0), (0, 0)), ((3, 2, 1, 0), (1, 1)), ((2, 3, 1, 0), (0, 2, 0, 2))):
            place = place_of_loop(points, list(loop))
            self.assertTrue(comes_back_in(points, place[0], place[1], len(loop)), points)

    def test_ways_back(self):
        for points in LINES:
            pieces = range(len(points) - 1)
            for start in pieces:
                ways = ways_back(points, start, 4)
                self.assertEqual(ways[0], [start])
                for fewer, more in zip(ways, ways[1:]):
                    found = [i for i in pieces if i >= start and any(slow.covers(points, i, j) for j in fewer)]
                    self.assertEqual(more, found)


if __name__ == "__main__":
    unittest.main()
