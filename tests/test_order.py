"""Point 3: brings; and d of what holds."""

import unittest

import slow
from asking import ask, ask_of, begin, brings

GREATEST = 4294967295
MOST = 1000
ORDER = slow.order_up_to(MOST)


def brought_by(k, most):
    """For each l from 1 to most what brings answers."""
    told = []
    for start in range(1, most + 1, 399):
        told += ask(begin(1), *[brings(k, l) for l in range(start, min(start + 399, most + 1))])[1:]
    return [answer[0] for answer in told]


class Brings(unittest.TestCase):
    def assert_brings(self, answer, *pairs):
        for k, l in pairs:
            self.assertEqual(ask(begin(2), brings(k, l)), [[0], [answer]], (k, l))

    def test_itself(self):
        self.assert_brings(1, (1, 1), (2, 2), (3, 3), (6, 6), (512, 512), (1000, 1000))

    def test_a_power_of_two_from_an_odd_number_above_one(self):
        self.assert_brings(1, (3, 1), (3, 2), (3, 512), (999, 512), (999, 1), (768, 512), (768, 1), (6, 512))
        self.assert_brings(0, (1, 3), (2, 3), (512, 3), (512, 999), (512, 768), (1, 768))

    def test_a_greater_power_of_two(self):
        self.assert_brings(1, (3, 6), (5, 6), (999, 6), (999, 768), (6, 12), (14, 12), (998, 12))
        self.assert_brings(0, (6, 3), (6, 5), (6, 999), (768, 999), (12, 6), (12, 998))

    def test_the_same_power_of_two(self):
        self.assert_brings(1, (3, 5), (5, 7), (997, 999), (6, 10), (24, 40), (6, 998))
        self.assert_brings(0, (5, 3), (7, 5), (999, 997), (10, 6), (40, 24), (998, 6))

    def test_both_powers_of_two(self):
        self.assert_brings(1, (2, 1), (4, 2), (512, 1), (512, 256))
        self.assert_brings(0, (1, 2), (2, 4), (1, 512), (256, 512))

    def test_numbers_of_steps_of_rounds(self):
        order = (3, 5, 6, 4, 2, 1)
        for place, k in enumerate(order):
            self.assert_brings(0, *[(k, l) for l in order[:place]])
            self.assert_brings(1, *[(k, l) for l in order[place:]])

    def test_whatever_the_line_is(self):
        for points in ((0, 1), (1, 2, 0), (6, 0, 5, 1, 4, 2, 3)):
            self.assertEqual(ask_of(points, brings(3, 1), brings(1, 3)), [[1], [0]])

    def test_refused_unless_one_to_a_thousand(self):
        for wrong in (0, 1001, 1002, 1024, GREATEST):
            self.assert_brings(-22, (wrong, 1), (1, wrong), (1000, wrong), (wrong, wrong), (wrong, 0), (0, wrong))

    def test_not_begun(self):
        for k, l in ((3, 1), (1, 1), (0, 0), (1001, 1), (GREATEST, 3)):
            self.assertEqual(ask(brings(k, l), begin(0), brings(k, l)), [[-11], [-22], [-11]])


class Order(unittest.TestCase):
    def test_the_order_is_of_all_numbers(self):
        self.assertEqual(sorted(ORDER), list(range(1, MOST + 1)))
        self.assertEqual(ORDER[:3] + ORDER[-4:], [3, 5, 7, 8, 4, 2, 1])
        self.assertEqual(ORDER[498:502], [999, 6, 10, 14])

    def test_each_brings_what_comes_later(self):
        where = {number: place for place, number in enumerate(ORDER)}
        for k in range(1, MOST + 1):
            found = [1 if where[k] <= where[l] else 0 for l in range(1, MOST + 1)]
            self.assertEqual(brought_by(k, MOST), found, k)

    def test_three_brings_all(self):
        self.assertEqual(brought_by(3, MOST), [1] * MOST)

    def test_all_bring_one(self):
        for start in range(1, MOST + 1, 250):
            told = ask(begin(1), *[brings(k, 1) for k in range(start, start + 250)])
            self.assertEqual(told[1:], [[1]] * 250)

    def test_one_brings_only_itself(self):
        self.assertEqual(brought_by(1, MOST), [1] + [0] * (MOST - 1))

    def test_of_two_one_brings_the_other_and_no_more(self):
        brought = {k: brought_by(k, 130) for k in range(1, 131)}
        for k in brought:
            for l in brought:
                both = brought[k][l - 1] + brought[l][k - 1]
                self.assertEqual(both, 2 if k == l else 1, (k, l))
                if brought[k][l - 1] == 1:
                    self.assertTrue(all(of_k >= of_l for of_k, of_l in zip(brought[k], brought[l])), (k, l))


if __name__ == "__main__":
    unittest.main()
