"""Point 4: mixed and hard."""

import unittest

from tests.lines import MOST, ask_behind, hard, mixed, ratio, start


def mixed_by(parts, pairs):
    """What mixed answers by a ratio, or by the one at a start."""
    before = [start([5])] + ([ratio(*parts)] if parts else [])
    return [answer[0] for answer in ask_behind(before, [mixed(x, y) for x, y in pairs])]


class Mixed(unittest.TestCase):
    def test_by_the_ratio_at_a_start(self):
        # of 1000 resin: 300 hardener, 6 more or less
        self.assertEqual(mixed_by(None, [(1000, 300), (1000, 293), (1000, 294), (1000, 306), (1000, 307)]),
                         [1, 0, 1, 1, 0])
        self.assertEqual(mixed_by(None, [(100, 30), (100, 29), (100, 31), (30, 100)]), [1, 0, 0, 0])

    def test_just_within_and_just_beyond_to_either_side(self):
        self.assertEqual(mixed_by((1, 1, 100), [(1000, y) for y in (899, 900, 901, 1099, 1100, 1101)]),
                         [0, 1, 1, 1, 1, 0])
        self.assertEqual(mixed_by((2, 5, 10), [(400, y) for y in (989, 990, 1010, 1011)]), [0, 1, 1, 0])
        self.assertEqual(mixed_by((1, 1, 500), [(2, y) for y in range(5)]), [0, 1, 1, 1, 0])

    def test_thousandths_that_are_no_whole_amount(self):
        self.assertEqual(mixed_by((1, 1, 1), [(999, y) for y in (998, 999, 1000)]), [0, 1, 0])
        self.assertEqual(mixed_by((1, 1, 1), [(1000, y) for y in (998, 999, 1001, 1002)]), [0, 1, 1, 0])
        self.assertEqual(mixed_by((1, 1, 1), [(1999, y) for y in (1997, 1998, 2000, 2001)]), [0, 1, 1, 0])
        self.assertEqual(mixed_by((7, 3, 250), [(5, y) for y in range(5)]), [0, 0, 1, 0, 0])

    def test_thousandths_are_those_of_resin_times_q(self):
        # a half of 100 is 50; a half of the hardener would be another amount
        self.assertEqual(mixed_by((1, 1, 500), [(100, 49), (100, 50), (100, 150), (100, 151), (100, 200)]),
                         [0, 1, 1, 0, 0])

    def test_the_ratio_goes_from_resin_to_hardener(self):
        self.assertEqual(mixed_by((2, 1, 0), [(2, 1), (1, 2), (200, 100), (100, 200)]), [1, 0, 1, 0])
        self.assertEqual(mixed_by((1, 1000, 0), [(10, 10000), (10000, 10)]), [1, 0])

    def test_near_at_0_takes_the_ratio_alone(self):
        self.assertEqual(mixed_by((3, 7, 0), [(3, 6), (3, 7), (3, 8), (6, 14), (1, 2), (1, 3), (300, 700)]),
                         [0, 1, 0, 1, 0, 0, 1])

    def test_0_of_either_and_of_both(self):
        for parts in (None, (1, 1, 0), (1, 1, 500), (1000, 1, 500), (1, 1000, 500)):
            with self.subTest(parts):
                self.assertEqual(mixed_by(parts, [(0, 0), (0, 1), (1, 0), (0, 10000), (10000, 0)]), [1, 0, 0, 0, 0])

    def test_at_most_10000_of_either(self):
        self.assertEqual(mixed_by((1, 1, 1), [(10000, 10000), (10000, 9990), (10000, 9989)]), [1, 1, 0])
        self.assertEqual(mixed_by((1, 1, 1), [(10001, 10000), (10000, 10001), (10001, 10001), (10001, 0), (0, 10001),
                                              (MOST, 0), (0, MOST), (MOST, MOST)]), [-22] * 8)

    def test_the_greatest_numbers(self):
        self.assertEqual(mixed_by((1000, 1000, 500), [(10000, 5000), (10000, 4999), (10000, 10000), (6667, 10000),
                                                      (6666, 10000)]), [1, 0, 1, 1, 0])

    def test_the_ratio_told_last_counts(self):
        self.assertEqual(ask_behind([start([5])], [mixed(1, 1), ratio(1, 1, 0), mixed(1, 1), ratio(2, 1, 0),
                                                   mixed(1, 1), start([5]), mixed(10, 3)]),
                         [[0], [0], [1], [0], [0], [1], [1]])


def hard_by(parts, amounts):
    before = [start([5])] + ([ratio(*parts)] if parts else [])
    return ask_behind(before, [hard(x) for x in amounts])


class Hard(unittest.TestCase):
    def test_x_is_1_to_200(self):
        self.assertEqual(hard_by((1, 1, 0), [0, 1, 200, 201, MOST]), [[-22], [1, 1], [200, 200], [-22], [-22]])
        self.assertEqual(hard_by((1000, 1, 0), [0, 1, 200, 201]), [[-22], [-33], [-33], [-22]])

    def test_by_the_ratio_at_a_start(self):
        # of 200 from 58 4/5 to 61 1/5, of 100 from 29 2/5 to 30 3/5, of 1 from 294/1000 to 306/1000
        self.assertEqual(hard_by(None, [200, 100, 10, 3, 1]), [[59, 61], [30, 30], [3, 3], [-33], [-33]])

    def test_the_least_and_the_greatest_are_with_them(self):
        self.assertEqual(hard_by((1, 1, 100), [10, 100, 200]), [[9, 11], [90, 110], [180, 220]])
        self.assertEqual(hard_by((1, 1, 500), [1, 2, 3]), [[1, 1], [1, 3], [2, 4]])
        self.assertEqual(hard_by((2, 5, 10), [40, 39]), [[99, 101], [97, 98]])

    def test_a_ratio_that_whole_amounts_do_not_meet(self):
        self.assertEqual(hard_by((3, 7, 0), [1, 2, 3, 4, 198, 199]), [[-33], [-33], [7, 7], [-33], [462, 462], [-33]])
        self.assertEqual(hard_by((1000, 999, 0), [1, 100, 200]), [[-33]] * 3)
        self.assertEqual(hard_by((2, 1, 499), [1]), [[-33]])

    def test_just_one_amount_that_will_do(self):
        # 199 4/5 and about a thousandth, or about two, of it
        self.assertEqual(hard_by((1000, 999, 1), [200]), [[-33]])
        self.assertEqual(hard_by((1000, 999, 2), [200]), [[200, 200]])
        # a half, and as much again as its half
        self.assertEqual(hard_by((2, 1, 500), [1, 2, 3]), [[-33], [1, 1], [1, 2]])
        # 4/5, and a quarter of it; 4/3, less a quarter
        self.assertEqual(hard_by((5, 4, 250), [1]), [[1, 1]])
        self.assertEqual(hard_by((5, 4, 249), [1]), [[-33]])
        self.assertEqual(hard_by((3, 4, 250), [1]), [[1, 1]])
        self.assertEqual(hard_by((3, 4, 249), [1]), [[-33]])

    def test_so_little_resin_that_less_than_1_would_do(self):
        self.assertEqual(hard_by((1000, 1, 500), [1, 200]), [[-33], [-33]])
        self.assertEqual(hard_by((1000, 5, 0), [199, 200]), [[-33], [1, 1]])

    def test_hardener_may_be_more_than_can_be_asked_of_mixed(self):
        self.assertEqual(hard_by((1, 1000, 0), [1, 10, 11, 200]),
                         [[1000, 1000], [10000, 10000], [11000, 11000], [200000, 200000]])
        self.assertEqual(hard_by((1, 1000, 500), [200]), [[100000, 300000]])

    def test_the_ratio_told_last_counts(self):
        self.assertEqual(ask_behind([start([5])], [ratio(1, 1, 0), hard(9), ratio(3, 1, 0), hard(9), start([5]),
                                                   hard(10)]),
                         [[0], [9, 9], [0], [3, 3], [1], [3, 3]])


if __name__ == "__main__":
    unittest.main()
