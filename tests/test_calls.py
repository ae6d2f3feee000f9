"""What holds of all calls: refusals, the list of calls and the list of answers, nothing changed and nothing kept."""

import unittest

import foldedline.rounds
from asking import (ask, ask_of, begin, comes, covers, has, joined, line, put, row, set_point, taken_apart,
                    way, where_all_are)

GREATEST = 4294967295

GOOD = [set_point(0, 1), row(0, 1), row(), put(0, 1), way(0, 1, 1), comes(0, 1), covers(0, 0), has(1)]
BAD = [set_point(9, 9), row(9, 9, 9), put(0, 0), way(0, 0, 0), comes(9, 1), covers(9, 9), has(0), has(7)]

# A line of three pieces is asked these; each is refused so.
REFUSED = [
    (begin(0), -22), (begin(7), -22), (begin(GREATEST), -22),
    (set_point(4, 0), -2), (set_point(4, 4), -2), (set_point(0, 4), -22),
    (row(), -22), (row(0, 0, 0), -22), (row(0, 0, 0, 0, 0), -22), (row(0, 0, 0, 4), -22),
    (put(0, 0), -22), (put(0, 41), -22), (put(4, 1), -22), (put(121, 40), -22), (put(GREATEST, GREATEST), -22),
    (way(0, 0, 1), -22), (way(0, 1, 0), -22), (way(0, 1, 21), -22), (way(10, 3, 1), -22), (way(4, 1, 21), -22),
    (comes(0, 0), -22), (comes(0, 41), -22), (comes(7, 2), -22),
    (covers(3, 0), -2), (covers(0, 3), -2), (covers(3, 3), -2),
    (has(0), -22), (has(7), -22), (has(GREATEST), -22),
]


class Refusals(unittest.TestCase):
    def test_all_but_begin_before_a_begin(self):
        for call in GOOD + BAD:
            self.assertEqual(ask(call), [[-11]], call)
        self.assertEqual(ask(*GOOD, *BAD), [[-11]] * len(GOOD + BAD))

    def test_a_refused_begin_does_not_count(self):
        for call in GOOD + BAD:
            self.assertEqual(ask(begin(0), call, begin(7), call), [[-22], [-11], [-22], [-11]], call)

    def test_begun_behind_refusals(self):
        self.assertEqual(ask(has(1), begin(7), put(0, 1), begin(1), has(1), put(0, 1)),
                         [[-11], [-22], [-11], [0], [1], [0, 0, 1]])

    def test_each_is_its_number_alone(self):
        for call, refusal in REFUSED:
            self.assertEqual(ask_of((2, 3, 1, 0), call), [[refusal]], call)

    def test_each_leaves_all_as_it_was(self):
        looks = where_all_are(3) + [put(4, 3), way(1, 3, 20), comes(7, 5), covers(1, 1), has(4), has(3)]
        before = ask_of((2, 3, 1, 0), *looks)
        for call, refusal in REFUSED:
            self.assertEqual(ask_of((2, 3, 1, 0), call, *looks), [[refusal]] + before, call)

    def test_questions_leave_all_as_it_was(self):
        looks = [put(4, 3), way(1, 3, 20), comes(7, 5), covers(1, 1), has(4), has(3)]
        self.assertEqual(ask_of((2, 3, 1, 0), *looks, *where_all_are(3))[len(looks):],
                         [[0, 2, 1], [0, 3, 1], [0, 1, 1], [0, 0, 1]])


class Lists(unittest.TestCase):
    def test_answers_stand_behind_their_counts(self):
        asked_and_told = (
            ([0, 2], [1, 0]), ([2, 3, 1, 2, 0], [1, 0]), ([1, 0, 2], [1, 1]), ([1, 0, 1], [1, 2]),
            ([3, 1, 2], [3, 0, 3, 2]), ([4, 1, 2, 2], [5, 2, 1, 2, 3, 2]), ([5, 1, 2], [2, 2, 3]),
            ([6, 0, 1], [1, 1]), ([7, 3], [1, 1]), ([7, 7], [1, -22]), ([6, 2, 0], [1, -2]))
        calls = joined([asked for asked, told in asked_and_told])
        self.assertEqual(foldedline.rounds.answers(calls), joined([told for asked, told in asked_and_told]))

    def test_a_row_is_read_by_its_own_count(self):
        self.assertEqual(foldedline.rounds.answers([2, 0, 0, 1, 2, 2, 1, 0, 3, 0, 1]), [1, -11, 1, 0, 1, 0, 3, 0, 1, 1])
        self.assertEqual(ask(begin(1), row(0, 0, 0, 0, 0, 0, 0, 0, 0, 7), row(1, 1), put(0, 1)),
                         [[0], [-22], [0], [0, 1, 1]])

    def test_four_hundred_calls(self):
        told = ask(begin(6), row(0, 6, 0, 6, 0, 6, 0), *[has(6), way(239, 40, 20)] * 199)
        self.assertEqual(told[2::2], [[1]] * 199)
        self.assertEqual([len(answer) for answer in told[3::2]], [41] * 199)

    def test_whole_numbers_and_lists_alone(self):
        calls = joined(line(2, 3, 1, 0) + GOOD + BAD + [call for call, refusal in REFUSED])
        told = foldedline.rounds.answers(calls)
        self.assertIs(type(told), list)
        self.assertEqual({type(number) for number in told}, {int})

    def test_what_is_handed_in_is_not_changed(self):
        calls = joined(line(2, 3, 1, 0) + [set_point(0, 0), begin(2), row(1, 2, 0), set_point(1, 1)] + BAD)
        copy = list(calls)
        told = foldedline.rounds.answers(calls)
        self.assertEqual(calls, copy)
        told.clear()
        self.assertEqual(calls, copy)

    def test_nothing_is_kept(self):
        calls = joined(line(2, 3, 1, 0) + GOOD + BAD)
        first = foldedline.rounds.answers(calls)
        self.assertEqual(foldedline.rounds.answers(calls), first)
        for call in GOOD:
            self.assertEqual(ask(call), [[-11]])
        self.assertEqual(taken_apart(foldedline.rounds.answers(joined([begin(3)] + where_all_are(3))))[1:],
                         [[0, point, 1] for point in range(4)])
        self.assertEqual(foldedline.rounds.answers(calls), first)


if __name__ == "__main__":
    unittest.main()
