"""Point 3: sets, inTime, good, warmest."""

import unittest

from tests.lines import (MOST, air, ask, ask_behind, cell, good, in_time, inlets, mixed_rows, sets, start, table, vents,
                         warmest)

UNTOLD = [[-33]]


def sets_by(warmths, minutes, asked):
    return [answer[0] for answer in ask_behind([start([5]), table(warmths, minutes)], [sets(t) for t in asked])]


class Sets(unittest.TestCase):
    def test_no_table_tells_no_warmth(self):
        for t in (0, 1, 50, 100, 101, MOST):
            with self.subTest(t):
                self.assertEqual(ask_behind([start([5])], [sets(t)]), UNTOLD)

    def test_one_row_tells_its_warmth_alone(self):
        self.assertEqual(sets_by([40], [7], [0, 39, 40, 41, 100, MOST]), [-33, -33, 7, -33, -33, -33])
        self.assertEqual(sets_by([0], [100000], [0, 1, MOST]), [100000, -33, -33])
        self.assertEqual(sets_by([100], [1], [99, 100, 101, MOST]), [-33, 1, -33, -33])

    def test_at_a_row(self):
        warmths = [3, 10, 11, 40, 41, 60, 99, 100]
        minutes = [500, 7, 100000, 0, 1, 8, 8, 99999]
        self.assertEqual(sets_by(warmths, minutes, warmths), minutes)

    def test_just_below_the_first_and_just_above_the_last(self):
        self.assertEqual(sets_by([10, 20], [90, 60], [9, 10, 20, 21]), [-33, 90, 60, -33])
        self.assertEqual(sets_by([0, 100], [90, 60], [0, 100, 101]), [90, 60, -33])
        self.assertEqual(sets_by([1, 99], [90, 60], [0, 1, 99, 100]), [-33, 90, 60, -33])

    def test_a_far_warmth(self):
        self.assertEqual(sets_by([0, 100], [90, 60], [200, 256, 65536 + 50, 1 << 31, MOST]), [-33] * 5)

    def test_between_two_rows_straight(self):
        self.assertEqual(sets_by([10, 20], [90, 60], range(10, 21)), [90, 87, 84, 81, 78, 75, 72, 69, 66, 63, 60])

    def test_minutes_that_rise_are_rounded_down(self):
        # 10/3 and 20/3 more
        self.assertEqual(sets_by([10, 13], [5, 15], range(10, 14)), [5, 8, 11, 15])

    def test_minutes_that_fall_are_rounded_down(self):
        # 15 less 10/3 and 20/3
        self.assertEqual(sets_by([10, 13], [15, 5], range(10, 14)), [15, 11, 8, 5])
        self.assertEqual(sets_by([0, 100], [1, 0], [0, 1, 50, 99, 100]), [1, 0, 0, 0, 0])

    def test_minutes_that_stay(self):
        self.assertEqual(sets_by([10, 17], [15, 15], range(10, 18)), [15] * 8)

    def test_the_steepest(self):
        self.assertEqual(sets_by([0, 100], [0, 100000], [1, 50, 99]), [1000, 50000, 99000])
        self.assertEqual(sets_by([93, 100], [100000, 0], range(94, 100)), [85714, 71428, 57142, 42857, 28571, 14285])

    def test_the_two_rows_around_it_count_alone(self):
        warmths = [0, 10, 20, 30, 34, 40, 50, 60]
        minutes = [9, 100000, 80, 40, 47, 0, 3, 3]
        self.assertEqual(sets_by(warmths, minutes, [5, 15, 25, 29, 31, 32, 33, 35, 59]),
                         [50004, 50040, 60, 44, 41, 43, 45, 39, 3])

    def test_0_minutes_are_told(self):
        self.assertEqual(sets_by([10, 20], [0, 0], [9, 10, 15, 20]), [-33, 0, 0, 0])

    def test_the_table_told_last_counts(self):
        before = [start([5]), table([10, 20], [90, 60]), table([15], [1])]
        self.assertEqual(ask_behind(before, [sets(10), sets(15), sets(20)]), [[-33], [1], [-33]])

    def test_a_start_takes_the_table_away(self):
        self.assertEqual(ask_behind([start([5]), table([10, 20], [90, 60]), start([5])], [sets(10), sets(15)]),
                         [[-33], [-33]])


def judged(before, t):
    """What inTime and good answer at a warmth."""
    return [answer[0] for answer in ask_behind(before, [in_time(t), good(t)])]


class InTimeAndGood(unittest.TestCase):
    # from the inlet 0 all is wet at 3 + 4 + 8
    ROW = [start([3, 1, 4]), inlets(1)]

    def test_minutes_that_are_just_enough(self):
        for minutes, answer in ((0, 0), (14, 0), (15, 1), (16, 1), (100000, 1)):
            with self.subTest(minutes):
                self.assertEqual(judged(self.ROW + [table([20], [minutes])], 20), [answer, answer])

    def test_minutes_between_rows_are_rounded_down(self):
        # 14, then 14 2/3, 15 1/3, then 16
        rising = self.ROW + [table([10, 13], [14, 16])]
        self.assertEqual([judged(rising, t) for t in range(9, 15)], [[0, 0], [0, 0], [0, 0], [1, 1], [1, 1], [0, 0]])
        falling = self.ROW + [table([10, 13], [16, 14])]
        self.assertEqual([judged(falling, t) for t in range(9, 15)], [[0, 0], [1, 1], [1, 1], [0, 0], [0, 0], [0, 0]])

    def test_no_inlet(self):
        self.assertEqual(judged([start([3, 1, 4]), table([20], [100000])], 20), [0, 0])
        self.assertEqual(judged([start([3, 1, 4]), vents(7), table([20], [100000])], 20), [0, 0])
        self.assertEqual(judged(self.ROW + [table([20], [100000]), inlets(0)], 20), [0, 0])

    def test_a_warmth_that_is_not_told(self):
        for t in (0, 50, 100, MOST):
            with self.subTest(t):
                self.assertEqual(judged(self.ROW, t), [0, 0])
        for t in (0, 19, 31, 100, 101, MOST):
            with self.subTest(t):
                self.assertEqual(judged(self.ROW + [table([20, 30], [100000, 100000])], t), [0, 0])

    def test_neither_inlet_nor_table(self):
        self.assertEqual(judged([start([3, 1, 4])], 20), [0, 0])

    def test_in_time_with_air_shut_in_is_not_good(self):
        # the fronts meet between the cells 1 and 2, at 3 minutes
        meeting = [start([1, 1, 1, 1]), inlets(0b1001), table([20], [3])]
        self.assertEqual(judged(meeting, 20), [1, 0])
        for vent_bits, answer in ((0b0001, 0), (0b0010, 1), (0b0100, 1), (0b1000, 0), (0b1001, 0), (0b0110, 1)):
            with self.subTest(vent_bits):
                self.assertEqual(judged(meeting + [vents(vent_bits)], 20), [1, answer])

    def test_one_vent_of_two_that_are_needed(self):
        meeting = [start([1] * 8), inlets(0b10010001), table([20], [6])]
        self.assertEqual([judged(meeting + [vents(bits)], 20)[1] for bits in (0, 0b100, 0b100000, 0b100100)],
                         [0, 0, 0, 1])

    def test_vents_do_not_make_it_sooner(self):
        meeting = [start([1, 1, 1, 1]), inlets(0b1001), table([20], [2])]
        for vent_bits in range(16):
            self.assertEqual(judged(meeting + [vents(vent_bits)], 20), [0, 0])

    def test_all_cells_inlets(self):
        row = [start([7, 9, 8]), inlets(7)]
        self.assertEqual(judged(row + [table([20], [9])], 20), [1, 0])
        self.assertEqual(judged(row + [table([20], [9]), vents(2)], 20), [1, 1])
        self.assertEqual(judged(row + [table([20], [8]), vents(2)], 20), [0, 0])

    def test_what_is_told_anew_counts(self):
        self.assertEqual(ask_behind(self.ROW + [table([20], [15])],
                                    [good(20), cell(1, 2), good(20), inlets(2), good(20), inlets(0), good(20)]),
                         [[1], [1], [0], [1], [1], [2], [0]])

    def test_good_is_in_time_without_air(self):
        seen = set()
        for k, cells in enumerate(mixed_rows(31, 60)):
            every = (1 << len(cells)) - 1
            before = [start(cells), table([10, 90], [sum(cells), 3 * max(cells)])]
            for bits in range(every + 1):
                told = [inlets(bits), vents((bits * 29 + k) & every)]
                asked = ask_behind(before + told, [in_time(50), good(50), air()])
                both = 1 if asked[0] == [1] and asked[2] == [0] else 0
                self.assertEqual(asked[1], [both])
                seen.add((asked[0][0], min(asked[2][0], 1)))
        self.assertEqual(seen, {(0, 0), (0, 1), (1, 0), (1, 1)})


class Warmest(unittest.TestCase):
    ROW = [start([3, 1, 4]), inlets(1)]

    def assert_warmest(self, warmths, minutes, answer):
        self.assertEqual(ask_behind(self.ROW + [table(warmths, minutes)], [warmest()]), [[answer]])

    def test_no_table(self):
        self.assertEqual(ask_behind(self.ROW, [warmest()]), [[-33]])

    def test_no_inlet(self):
        self.assertEqual(ask_behind([start([3, 1, 4]), table([20, 30], [100000, 100000])], [warmest()]), [[-33]])

    def test_neither(self):
        self.assertEqual(ask(start([3]), warmest()), [[1], [-33]])

    def test_good_at_none_for_want_of_minutes(self):
        self.assert_warmest([20, 30], [14, 14], -33)
        self.assert_warmest([0, 100], [0, 14], -33)

    def test_good_at_none_for_air_shut_in(self):
        meeting = [start([1, 1, 1, 1]), inlets(0b1001), table([20, 30], [100, 100])]
        self.assertEqual(ask_behind(meeting, [warmest(), vents(4), warmest()]), [[-33], [0], [30]])

    def test_good_at_the_greatest_warmth_told(self):
        self.assert_warmest([20, 30], [15, 15], 30)
        self.assert_warmest([20, 30], [0, 15], 30)
        self.assert_warmest([30], [15], 30)

    def test_between_two_rows(self):
        # 5 minutes less each
        self.assert_warmest([10, 20], [50, 0], 17)
        # 15 4/5 at 27, 13 3/5 at 28
        self.assert_warmest([10, 20, 25, 30, 40], [0, 0, 20, 9, 3], 27)
        # 14 6/7 at 12, rounded down
        self.assert_warmest([10, 17], [16, 12], 11)

    def test_good_at_one_row_alone(self):
        self.assert_warmest([10, 11, 12], [0, 15, 0], 11)

    def test_the_least_warmth(self):
        self.assert_warmest([0], [15], 0)
        self.assert_warmest([0, 1], [15, 14], 0)

    def test_a_table_up_to_100(self):
        self.assert_warmest([0, 100], [15, 15], 100)
        self.assert_warmest([100], [15], 100)
        self.assert_warmest([99, 100], [15, 14], 99)
        self.assert_warmest([98, 99], [15, 15], 99)

    def test_good_again_behind_a_gap(self):
        self.assert_warmest([10, 20, 30], [15, 0, 15], 30)
        self.assert_warmest([10, 20, 30, 40], [15, 0, 20, 0], 32)

    def test_above_it_it_is_good_at_none(self):
        for k, cells in enumerate(mixed_rows(17, 48)):
            every = (1 << len(cells)) - 1
            minutes = [(k * 7919 + row * 104729) % (3 * sum(cells)) for row in range(4)]
            before = [start(cells), inlets((k * 13 + 1) & every), vents((k * 5) & every),
                      table([k, k + 9, k + 20, k + 23], minutes)]
            asked = ask_behind(before, [warmest()] + [good(t) for t in range(102)])
            warmths = [t for t in range(102) if asked[t + 1] == [1]]
            with self.subTest(cells, k=k):
                self.assertEqual(asked[0], [max(warmths, default=-33)])


if __name__ == "__main__":
    unittest.main()
