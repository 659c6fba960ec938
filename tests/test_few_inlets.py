"""Point 3: fewest and soonest."""

import unittest

from tests.lines import (MOST, ask, ask_behind, cell, fewest, good, inlets, inlets_of, last, ratio, soonest, start,
                         state, table, vents)


class Fewest(unittest.TestCase):
    ROW = start([3, 1, 4])

    def assert_fewest(self, cells, vent_bits, minutes, answer):
        """What it answers, with so many minutes at the warmth 20."""
        before = [start(cells), vents(vent_bits), table([20], [minutes])]
        self.assertEqual(ask_behind(before, [fewest(20)]), [answer])

    def test_one_inlet(self):
        # from the inlets 0, 1, 2 alone all is wet at 15, 6, 17
        self.assert_fewest([3, 1, 4], 0, 6, [1, 0b010])
        self.assert_fewest([3, 1, 4], 0, 14, [1, 0b010])
        self.assert_fewest([4, 1, 3], 0, 17, [1, 0b001])

    def test_of_like_ones_the_least_set(self):
        self.assert_fewest([3, 1, 4], 0, 15, [1, 0b001])
        self.assert_fewest([5] * 8, 0, 5 * 36, [1, 1])
        # from its ends a row of six takes 21, from 1 and 4 it takes 15, from 2 and 3 it takes 10
        self.assert_fewest([1] * 6, 0, 20, [1, 0b000010])
        self.assert_fewest([1] * 6, 0, 14, [1, 0b000100])

    def test_by_none_for_want_of_minutes(self):
        self.assert_fewest([3, 1, 4], 7, 3, [-33])
        self.assert_fewest([3, 1, 4], 7, 0, [-33])
        self.assert_fewest([100], 0, 99, [-33])
        self.assert_fewest([100], 0, 100, [1, 1])

    def test_by_none_for_air_shut_in(self):
        self.assert_fewest([3, 1, 4], 0, 5, [-33])
        self.assert_fewest([1] * 8, 0, 14, [-33])

    def test_vents_let_more_inlets_do(self):
        # the inlets 1 and 2 take 5 minutes, and meet between 1 and 2
        self.assert_fewest([3, 1, 4], 0b001, 5, [-33])
        self.assert_fewest([3, 1, 4], 0b010, 5, [2, 0b110])
        self.assert_fewest([3, 1, 4], 0b100, 5, [2, 0b110])
        # all three take 4, and meet at either side of 1
        self.assert_fewest([3, 1, 4], 0b010, 4, [3, 0b111])
        self.assert_fewest([3, 1, 4], 0b100, 4, [-33])
        self.assert_fewest([3, 1, 4], 0b101, 4, [3, 0b111])

    def test_several_and_of_like_ones_the_least_set(self):
        # 6 minutes reach two cells further: 0 and 5 do, and meet between 2 and 3
        self.assert_fewest([1] * 8, 0b11111111, 6, [2, 0b00100001])
        self.assert_fewest([1] * 8, 0b00000100, 6, [2, 0b00100001])
        # a vent at 4 alone asks for fronts that meet at 3 and 4, or at 4 and 5
        self.assert_fewest([1] * 8, 0b00010000, 6, [2, 0b00100010])
        # 3 minutes reach one cell further
        self.assert_fewest([1] * 8, 0b11111111, 3, [3, 0b01001001])
        self.assert_fewest([1] * 8, 0b11111111, 2, [8, 0b11111111])

    def test_the_least_set_is_the_least_number(self):
        # 1 and 3 do, and 0 and 4, and 1 and 4
        self.assert_fewest([2, 1, 3, 2, 5], 0b01000, 12, [2, 0b01010])

    def test_few_inlets_come_ahead_of_a_lesser_number(self):
        # 0, 2 and 3 do as well: 0b01101
        self.assert_fewest([5, 2, 3, 1, 3], 0b01001, 9, [2, 0b10010])

    def test_one_vent_at_an_end(self):
        # a vent at 0 lets fronts meet between 0 and 1 alone
        self.assert_fewest([100, 1, 1], 0b001, 100, [2, 0b011])
        self.assert_fewest([100, 1, 1], 0b100, 100, [-33])

    def test_minutes_just_enough_at_the_warmth_asked(self):
        before = [self.ROW, table([10, 13], [4, 6])]
        self.assertEqual(ask_behind(before, [fewest(t) for t in range(9, 15)]),
                         [[-33], [-33], [-33], [-33], [1, 2], [-33]])

    def test_no_table(self):
        self.assertEqual(ask_behind([self.ROW, inlets(2)], [fewest(0), fewest(20), fewest(MOST)]), [[-33]] * 3)

    def test_a_warmth_that_is_not_told(self):
        before = [self.ROW, vents(7), table([20, 30], [100000, 100000])]
        for t in (0, 19, 31, 100, 101, MOST):
            with self.subTest(t):
                self.assertEqual(ask_behind(before, [fewest(t)]), [[-33]])
        self.assertEqual(ask_behind(before, [fewest(20), fewest(30)]), [[1, 1], [1, 1]])

    def test_inlets_told_now_do_not_matter_and_stay(self):
        before = [self.ROW, vents(2), table([20], [5])]
        for bits in range(8):
            with self.subTest(bits):
                self.assertEqual(ask_behind(before + [inlets(bits)], [fewest(20), state(), inlets(0)]),
                                 [[2, 0b110], [3, bits, 2, 1, 100, 30, 20], [bits]])

    def test_the_set_told_is_good(self):
        before = [start([1] * 8), vents(0b10000), table([20], [6])]
        self.assertEqual(ask_behind(before, [fewest(20), inlets(0b00100010), good(20)]), [[2, 0b100010], [0], [1]])

    def test_a_cell_told_anew_counts(self):
        self.assertEqual(ask_behind([self.ROW, table([20], [6])], [fewest(20), cell(2, 5), fewest(20)]),
                         [[1, 2], [4], [-33]])


class Soonest(unittest.TestCase):
    def test_one_inlet(self):
        self.assertEqual(ask_behind([start([3, 1, 4])], [soonest(1)]), [[6, 0b010]])
        self.assertEqual(ask_behind([start([100])], [soonest(1)]), [[100, 1]])

    def test_two_inlets(self):
        # 0 and 1: 3, 1, 6; 0 and 2: 3, 7, 4; 1 and 2: 5, 1, 4
        self.assertEqual(ask_behind([start([3, 1, 4])], [soonest(2)]), [[5, 0b110]])

    def test_as_many_as_there_are_cells(self):
        self.assertEqual(ask_behind([start([3, 1, 4])], [soonest(3)]), [[4, 0b111]])
        self.assertEqual(ask_behind([start([7, 99, 1, 2, 3, 4, 5, 6])], [soonest(8)]), [[99, 0b11111111]])

    def test_k_is_1_to_how_many_cells_there_are(self):
        for how_many in range(1, 9):
            asked = ask_behind([start([9] * how_many)],
                               [soonest(k) for k in (0, 1, how_many, how_many + 1, how_many + 256, MOST)])
            with self.subTest(how_many):
                self.assertEqual(asked[0], [-22])
                self.assertEqual(len(asked[1]), 2)
                self.assertEqual(asked[2], [9, (1 << how_many) - 1])
                self.assertEqual(asked[3:], [[-22]] * 3)

    def test_of_like_ones_the_least_set(self):
        # one inlet reaches 4, two 2, three 1 cell further, as soon as it can be
        self.assertEqual(ask_behind([start([1] * 8)], [soonest(k) for k in range(1, 9)]),
                         [[15, 0b00001000], [6, 0b00100001], [3, 0b01001001], [3, 0b01001011], [3, 0b01001111],
                          [3, 0b01011111], [3, 0b01111111], [1, 0b11111111]])
        self.assertEqual(ask_behind([start([2, 100, 2])], [soonest(1), soonest(2), soonest(3)]),
                         [[202, 0b010], [102 + 2, 0b101], [100, 0b111]])

        # 0 and 2, 1 and 2, 0 and 3, 1 and 3 all take 3 minutes
        self.assertEqual(ask_behind([start([1] * 4)], [soonest(2)]), [[3, 0b0101]])

    def test_needs_no_inlet_and_no_table(self):
        self.assertEqual(ask(start([3, 1, 4]), soonest(2)), [[3], [5, 0b110]])

    def test_inlets_told_now_do_not_matter_and_stay(self):
        for bits in range(8):
            with self.subTest(bits):
                self.assertEqual(ask_behind([start([3, 1, 4]), inlets(bits)], [soonest(2), state(), inlets(0)]),
                                 [[5, 0b110], [3, bits, 0, 0, 100, 30, 20], [bits]])

    def test_vents_and_table_and_ratio_do_not_matter(self):
        before = [start([3, 1, 4]), vents(2), table([20], [0]), ratio(1, 1, 1)]
        self.assertEqual(ask_behind(before, [soonest(k) for k in (1, 2, 3)]), [[6, 2], [5, 6], [4, 7]])

    def test_with_the_set_told_all_is_wet_then(self):
        cells = [9, 30, 2, 77, 5, 61, 8, 40]
        for minutes, bits in ask_behind([start(cells)], [soonest(k) for k in range(1, 9)]):
            self.assertEqual(ask_behind([start(cells), inlets(bits)], [last()])[0][0], minutes)

    def test_so_many_inlets_are_told(self):
        for k, answer in enumerate(ask_behind([start([1, 50] * 4)], [soonest(k) for k in range(1, 9)]), 1):
            self.assertEqual(len(inlets_of(answer[1])), k)

    def test_a_cell_told_anew_counts(self):
        self.assertEqual(ask_behind([start([3, 1, 4])], [cell(1, 90), soonest(1), soonest(3)]),
                         [[1], [90 + 94, 2], [90, 7]])


if __name__ == "__main__":
    unittest.main()
