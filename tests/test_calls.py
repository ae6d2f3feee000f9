"""What holds of all calls: refusals, the list of calls and the list of answers, nothing changed and nothing kept."""

import unittest

import foldedline.rounds
from asking import (ask, ask_of, begin, brings, comes, covers, has, joined, line, put, round_at, rounds, row, set_point,
                    slope, state, taken_apart, turn, type_of, way, where_all_are, which)

GREATEST = 4294967295

GOOD = [set_point(0, 1), row(0, 1), row(), put(0, 1), way(0, 1, 1), comes(0, 1), covers(0, 0), has(1),
        which(), rounds(2), round_at(1, 0), type_of(1, 0), brings(3, 1), slope(0), turn(), state()]
BAD = [set_point(9, 9), row(9, 9, 9), put(0, 0), way(0, 0, 0), comes(9, 1), covers(9, 9), has(0), has(7),
       rounds(0), rounds(7), round_at(0, 0), round_at(1, GREATEST), type_of(7, 7), brings(0, 0),
       brings(1001, 1), slope(6)]

# A line of three pieces is asked these; each is refused so.
REFUSED = [
    (begin(0), -22), (begin(7), -22), (begin(GREATEST), -22),
    (set_point(4, 0), -2), (set_point(4, 4), -2), (set_point(0, 4), -22),
    (row(), -22), (row(0, 0, 0), -22), (row(0, 0, 0, 0, 0), -22), (row(0, 0, 0, 4), -22),
    (put(0, 0), -22), (put(0, 41), -22), (put(4, 1), -22), (put(121, 40), -22), (put(GREATEST, GREATEST), -22),
    (way(0, 0, 1), -22), (way(0, 1, 0), -22), (way(0, 1, 21), -22), (way(10, 3, 1), -22), (way(4, 1, 21), -22),
    (comes(0, 0), -22), (comes(0, 41), -22), (comes(7, 2), -22),
    (covers(3, 0), -2), (covers(0, 3), -2), (covers(3, 3), -2),
    (has(0), -22), (has(7), -22), (has(GREATEST), -22),
    (rounds(0), -22), (rounds(7), -22), (rounds(GREATEST), -22), (rounds(4), -75),
    (round_at(0, 0), -22), (round_at(7, GREATEST), -22), (round_at(4, 0), -75), (round_at(4, GREATEST), -75),
    (round_at(1, 1), -33), (round_at(3, 0), -33), (round_at(2, GREATEST), -33),
    (type_of(0, 0), -22), (type_of(7, GREATEST), -22), (type_of(4, 0), -75), (type_of(4, GREATEST), -75),
    (type_of(1, 1), -33), (type_of(3, 0), -33), (type_of(2, GREATEST), -33),
    (brings(0, 1), -22), (brings(1, 0), -22), (brings(1001, 1), -22), (brings(1, 1001), -22),
    (brings(0, GREATEST), -22),
    (slope(3), -2), (slope(GREATEST), -2),
]


class Refusals(unittest.TestCase):
    def test_all_but_begin_before_a_begin(self):
        for call in GOOD + BAD:
            self.assertEqual(ask(call), [[-11]], call)
        self.assertEqual(ask(*GOOD, *BAD), [[-11]] * len(GOOD + BAD))

    def test_a_refused_begin_does_not_count(self):
        for call in GOOD + BAD:
            self.assertEqual(ask(begin(0), call, begin(7), call), [[-22], [-11], [-22], [-11]], call)

    def test_once_begun_a_refused_begin_does_not_end_it(self):
        for call in GOOD:
            self.assertNotEqual(ask(begin(1), begin(7), call)[2], [-11], call)

    def test_begun_behind_refusals(self):
        self.assertEqual(ask(has(1), begin(7), put(0, 1), begin(1), has(1), put(0, 1)),
                         [[-11], [-22], [-11], [0], [1], [0, 0, 1]])

    def test_each_is_its_number_alone(self):
        for call, refusal in REFUSED:
            self.assertEqual(ask_of((2, 3, 1, 0), call), [[refusal]], call)

    def test_each_leaves_all_as_it_was(self):
        looks = where_all_are(3) + [put(4, 3), way(1, 3, 20), comes(7, 5), covers(1, 1), has(4), has(3), which(),
                                    rounds(2), round_at(2, 0), type_of(2, 0), brings(3, 4), slope(1), state()]
        before = ask_of((2, 3, 1, 0), *looks)
        for call, refusal in REFUSED:
            self.assertEqual(ask_of((2, 3, 1, 0), call, *looks), [[refusal]] + before, call)

    def test_questions_leave_all_as_it_was(self):
        looks = [put(4, 3), way(1, 3, 20), comes(7, 5), covers(1, 1), has(4), has(3), which(), rounds(2),
                 round_at(2, 0), type_of(2, 0), brings(3, 4), slope(1), state()]
        self.assertEqual(ask_of((2, 3, 1, 0), *looks, *where_all_are(3))[len(looks):],
                         [[0, 2, 1], [0, 3, 1], [0, 1, 1], [0, 0, 1]])


class Lists(unittest.TestCase):
    def test_answers_stand_behind_their_counts(self):
        asked_and_told = (
            ([0, 2], [1, 0]), ([2, 3, 1, 2, 0], [1, 0]), ([1, 0, 2], [1, 1]), ([1, 0, 1], [1, 2]),
            ([3, 1, 2], [3, 0, 3, 2]), ([4, 1, 2, 2], [5, 2, 1, 2, 3, 2]), ([5, 1, 2], [2, 2, 3]),
            ([6, 0, 1], [1, 1]), ([7, 3], [1, 1]), ([7, 7], [1, -22]), ([6, 2, 0], [1, -2]),
            ([8], [1, 63]), ([9, 5], [1, 2]), ([10, 2, 0], [5, 2, 2, 3, 5, 3]), ([11, 4, 0], [5, 4, 0, 2, 1, 3]),
            ([12, 3, 5], [1, 1]), ([12, 5, 3], [1, 0]), ([13, 1], [2, 0, -2]), ([15], [4, 2, 1, 2, 0]),
            ([14], [1, 0]), ([15], [4, 2, 2, 0, 1]), ([13, 2], [1, -2]), ([9, 0], [1, -22]), ([10, 3, 1], [1, -33]),
            ([11, 3, 1], [1, -33]), ([0, 2], [1, 0]), ([9, 1], [1, -75]), ([15], [4, 2, 0, 1, 2]))
        calls = joined([asked for asked, told in asked_and_told])
        self.assertEqual(foldedline.rounds.answers(calls), joined([told for asked, told in asked_and_told]))

    def test_a_row_is_read_by_its_own_count(self):
        self.assertEqual(foldedline.rounds.answers([2, 0, 0, 1, 2, 2, 1, 0, 3, 0, 1]), [1, -11, 1, 0, 1, 0, 3, 0, 1, 1])
        self.assertEqual(ask(begin(1), row(0, 0, 0, 0, 0, 0, 0, 0, 0, 7), row(1, 1), put(0, 1)),
                         [[0], [-22], [0], [0, 1, 1]])

    def test_four_hundred_calls(self):
        told = ask(begin(6), row(0, 6, 0, 6, 0, 6, 0), *[has(6), way(239, 40, 20)] * 199)
        self.assertEqual(told[2::2], [[1]] * 199)
        self.assertEqual([len(answer) for answer in told[3::2]], [41] * 199)

    def test_four_hundred_calls_of_many_rounds(self):
        told = ask(begin(6), row(0, 6, 0, 6, 0, 6, 0), *[round_at(6, 7734), type_of(6, 7734)] * 199)
        self.assertEqual(told[2:4] * 199, told[2:])
        self.assertEqual([len(answer) for answer in told[2:4]], [13, 7])

    def test_calls_without_numbers_one_behind_another(self):
        self.assertEqual(foldedline.rounds.answers([8, 14, 15, 0, 1, 8, 14, 15, 14, 8]),
                         [1, -11, 1, -11, 1, -11, 1, 0, 1, 1, 1, 0, 3, 1, 0, 1, 1, 0, 1, 1])

    def test_whole_numbers_and_lists_alone(self):
        calls = joined(line(2, 3, 1, 0) + GOOD + BAD + [call for call, refusal in REFUSED])
        told = foldedline.rounds.answers(calls)
        self.assertIs(type(told), list)
        self.assertEqual({type(number) for number in told}, {int})

    def test_what_is_handed_in_is_not_changed(self):
        calls = joined(line(2, 3, 1, 0) + [set_point(0, 0), begin(2), row(1, 2, 0), turn(), rounds(6), round_at(6, 0),
                                       set_point(1, 1), state()] + GOOD + BAD)
        copy = list(calls)
        told = foldedline.rounds.answers(calls)
        self.assertEqual(calls, copy)
        told.clear()
        self.assertEqual(calls, copy)

    def test_nothing_is_kept(self):
        calls = joined(line(2, 3, 1, 0) + GOOD + BAD)
        first = foldedline.rounds.answers(calls)
        self.assertEqual(foldedline.rounds.answers(calls), first)
        for call in GOOD:
            self.assertEqual(ask(call), [[-11]])
        self.assertEqual(taken_apart(foldedline.rounds.answers(joined([begin(3)] + where_all_are(3))))[1:],
                         [[0, point, 1] for point in range(4)])
        self.assertEqual(foldedline.rounds.answers(calls), first)


if __name__ == "__main__":
    unittest.main()
