"""Point 1: start, cell, inlets, vents, table, ratio; and -11 before a start."""

import unittest

from tests.lines import (MOST, air, ask, ask_behind, cell, fewest, front, good, hard, in_time, inlets, last, mixed,
                         probes, ratio, sets, soonest, start, state, table, time, vents, warmest, wet, whom)

OTHER_CALLS = {
    "cell": cell(0, 5),
    "inlets": inlets(1),
    "vents": vents(1),
    "table": table([20, 30], [90, 60]),
    "ratio": ratio(100, 30, 20),
    "time": time(0, 0),
    "wet": wet(0),
    "whom": whom(0),
    "last": last(),
    "air": air(),
    "sets": sets(20),
    "inTime": in_time(20),
    "good": good(20),
    "warmest": warmest(),
    "fewest": fewest(20),
    "soonest": soonest(1),
    "mixed": mixed(100, 30),
    "hard": hard(100),
    "front": front(5),
    "state": state(),
}

# the same calls, told what they would refuse behind a start
OTHER_CALLS_REFUSED = {
    "cell": cell(9, 0),
    "inlets": inlets(MOST),
    "vents": vents(MOST),
    "table": table([], [1]),
    "ratio": ratio(0, 0, 501),
    "time": time(9, 9),
    "wet": wet(MOST),
    "whom": whom(MOST),
    "sets": sets(MOST),
    "fewest": fewest(MOST),
    "soonest": soonest(0),
    "mixed": mixed(10001, 10001),
    "hard": hard(0),
}


class RefusalCase(unittest.TestCase):
    BEFORE = [start([3, 1, 4, 1, 5]), inlets(0b01001), vents(0b00100), table([10, 20], [30, 15]), ratio(7, 9, 3)]

    def assert_refused(self, call, number=-22):
        """The call is answered by the number alone, and all shows as it would without it."""
        shown = probes(5)
        answered = ask_behind(self.BEFORE, [call] + shown)
        self.assertEqual(answered[0], [number])
        self.assertEqual(answered[1:], ask_behind(self.BEFORE, shown))

    def assert_taken(self, call, answer):
        self.assertEqual(ask_behind(self.BEFORE, [call]), [answer])


class BeforeStart(unittest.TestCase):
    def test_every_other_call_answers_11(self):
        for name, call in OTHER_CALLS.items():
            with self.subTest(name):
                self.assertEqual(ask(call), [[-11]])

    def test_11_comes_before_what_the_call_itself_refuses(self):
        for name, call in OTHER_CALLS_REFUSED.items():
            with self.subTest(name):
                self.assertEqual(ask(call), [[-11]])

    def test_a_refused_start_starts_nothing(self):
        for refused in (start([]), start([0]), start([101]), start([1] * 9)):
            for name, call in OTHER_CALLS.items():
                with self.subTest(name, refused=refused):
                    self.assertEqual(ask(refused, call, call), [[-22], [-11], [-11]])

    def test_a_call_that_answered_11_told_nothing(self):
        early = list(OTHER_CALLS.values())
        shown = probes(2)
        self.assertEqual(ask_behind(early + [start([7, 8])], shown), ask_behind([start([7, 8])], shown))

    def test_a_start_behind_a_refused_one_starts(self):
        self.assertEqual(ask(start([0]), wet(0), start([6]), time(0, 0)), [[-22], [-11], [1], [6]])


class Start(RefusalCase):
    def test_tells_how_many_cells(self):
        for how_many in range(1, 9):
            with self.subTest(how_many):
                self.assertEqual(ask(start([5] * how_many)), [[how_many]])

    def test_refuses_no_cell_and_more_than_eight(self):
        for how_many in (0, 9, 10, 16, 60):
            with self.subTest(how_many):
                self.assertEqual(ask(start([5] * how_many)), [[-22]])
                self.assert_refused(start([5] * how_many))

    def test_what_a_cell_resists_is_1_to_100(self):
        for resists, answer in ((0, -22), (1, 8), (100, 8), (101, -22), (MOST, -22)):
            for place in range(8):
                cells = [50] * 8
                cells[place] = resists
                with self.subTest(resists, place=place):
                    self.assertEqual(ask(start(cells)), [[answer]])
                    self.assertEqual(ask(start([resists]))[0][0] < 0, answer < 0)

    def test_each_cell_resists_what_is_told(self):
        cells = [1, 100, 2, 99, 3, 98, 4, 97]
        asked = ask_behind([start(cells)], [time(j, j) for j in range(8)])
        self.assertEqual(asked, [[r] for r in cells])

    def test_begins_without_inlets_and_vents(self):
        self.assertEqual(ask_behind([start([5, 5])], [last(), air(), inlets(3), air(), vents(1)]),
                         [[-6], [0], [0], [1, 0], [0]])

    def test_begins_without_a_table(self):
        self.assertEqual(ask_behind([start([5])], [sets(t) for t in range(101)]), [[-33]] * 101)

    def test_begins_with_the_ratio_100_to_30_and_20_thousandths(self):
        self.assertEqual(ask_behind([start([5])], [state(), hard(200), mixed(10000, 2940), mixed(10000, 2939)]),
                         [[1, 0, 0, 0, 100, 30, 20], [59, 61], [1], [0]])

    def test_a_second_start_begins_anew(self):
        shown = probes(3)
        before = self.BEFORE + [cell(0, 77), start([9, 8, 7])]
        self.assertEqual(ask_behind(before, shown), ask_behind([start([9, 8, 7])], shown))

    def test_a_second_start_takes_away_cells(self):
        self.assertEqual(ask_behind(self.BEFORE, [start([2]), time(0, 1), inlets(2), inlets(1), last()]),
                         [[1], [-22], [-22], [0], [2, 0]])

    def test_a_refused_start_behind_one_that_was_not(self):
        for refused in (start([]), start([1] * 9), start([4, 0, 4]), start([101])):
            with self.subTest(refused):
                self.assert_refused(refused)


class Cell(RefusalCase):
    def test_tells_what_it_resisted(self):
        self.assertEqual(ask(start([3, 1, 4]), cell(2, 9), cell(2, 8), cell(0, 3), cell(0, 2)),
                         [[3], [4], [9], [3], [3]])

    def test_resists_what_is_told_from_then_on(self):
        self.assertEqual(ask_behind([start([3, 1, 4]), inlets(1)],
                                    [last(), cell(1, 10), last(), time(1, 1), time(2, 2)]),
                         [[3 + 4 + 8, 2], [1], [3 + 13 + 17, 2], [10], [4]])

    def test_keeps_inlets_and_vents(self):
        self.assertEqual(ask_behind(self.BEFORE, [cell(0, 9), inlets(0), vents(0)]), [[3], [0b01001], [0b00100]])

    def test_r_is_1_to_100(self):
        self.assert_refused(cell(1, 0))
        self.assert_taken(cell(1, 1), [1])
        self.assert_taken(cell(1, 100), [1])
        self.assert_refused(cell(1, 101))
        self.assert_refused(cell(1, MOST))

    def test_there_must_be_the_cell(self):
        self.assert_taken(cell(4, 7), [5])
        for j in (5, 6, 8, MOST):
            self.assert_refused(cell(j, 7))
            self.assert_refused(cell(j, 0))


class InletsAndVents(RefusalCase):
    def test_tell_which_were(self):
        for call in (inlets, vents):
            with self.subTest(call.__name__):
                self.assertEqual(ask(start([1, 1, 1]), call(5), call(0), call(7), call(7), call(2)),
                                 [[3], [0], [5], [0], [7], [7]])

    def test_are_kept_apart(self):
        self.assertEqual(ask(start([1, 1, 1]), inlets(5), vents(2), inlets(1), vents(4)),
                         [[3], [0], [0], [5], [2]])

    def test_name_no_cell_that_there_is_not(self):
        for call, were in ((inlets, 0b01001), (vents, 0b00100)):
            with self.subTest(call.__name__):
                self.assert_taken(call(0), [were])
                self.assert_taken(call(31), [were])
                for bits in (32, 33, 63, 64, 256, 1 << 31, MOST):
                    self.assert_refused(call(bits))

    def test_edges_for_each_number_of_cells(self):
        for how_many in range(1, 9):
            every = (1 << how_many) - 1
            for call in (inlets, vents):
                with self.subTest(call.__name__, how_many=how_many):
                    self.assertEqual(ask(start([1] * how_many), call(every), call(every + 1), call(0)),
                                     [[how_many], [0], [-22], [every]])


class Table(RefusalCase):
    def assert_table_refused(self, warmths, minutes):
        self.assert_refused(table(warmths, minutes))
        self.assertEqual(ask(start([5]), table(warmths, minutes), state()), [[1], [-22], [1, 0, 0, 0, 100, 30, 20]])

    def test_tells_how_many_rows(self):
        for rows in range(1, 9):
            with self.subTest(rows):
                self.assert_taken(table(list(range(rows)), [60] * rows), [rows])

    def test_refuses_no_rows_and_more_than_eight(self):
        for rows in (0, 9, 60):
            with self.subTest(rows):
                self.assert_table_refused(list(range(rows)), [60] * rows)

    def test_warmths_rise(self):
        self.assert_taken(table([0, 1, 100], [9, 9, 9]), [3])
        self.assert_table_refused([20, 20], [9, 9])
        self.assert_table_refused([20, 19], [9, 9])
        self.assert_table_refused([10, 30, 30], [9, 9, 9])
        self.assert_table_refused([10, 30, 20], [9, 9, 9])
        self.assert_table_refused([30, 10, 40], [9, 9, 9])

    def test_warmths_are_at_most_100(self):
        self.assert_taken(table([0], [9]), [1])
        self.assert_taken(table([100], [9]), [1])
        self.assert_taken(table([99, 100], [9, 9]), [2])
        self.assert_table_refused([101], [9])
        self.assert_table_refused([20, 101], [9, 9])
        self.assert_table_refused([20, MOST], [9, 9])

    def test_minutes_are_at_most_100000(self):
        self.assert_taken(table([20, 30], [100000, 0]), [2])
        self.assert_table_refused([20, 30], [100001, 0])
        self.assert_table_refused([20, 30], [0, 100001])
        self.assert_table_refused([20], [MOST])

    def test_minutes_may_rise_fall_and_be_alike(self):
        self.assert_taken(table([1, 2, 3, 4], [5, 9, 9, 2]), [4])

    def test_as_many_minutes_as_warmths(self):
        self.assert_table_refused([20, 30], [9])
        self.assert_table_refused([20], [9, 9])
        self.assert_table_refused([], [9])
        self.assert_table_refused([20], [])
        self.assert_table_refused(list(range(8)), [9] * 9)
        self.assert_table_refused(list(range(9)), [9] * 8)

    def test_is_the_table_from_then_on(self):
        self.assertEqual(ask_behind(self.BEFORE, [sets(10), sets(50), table([30, 50], [8, 1]), sets(10), sets(50),
                                                  sets(30), table([10], [100000]), sets(10), sets(50)]),
                         [[30], [-33], [2], [-33], [1], [8], [1], [100000], [-33]])

    def test_changes_nothing_else(self):
        shown = [one for one in probes(5) if one[0] < 11]
        self.assertEqual(ask_behind(self.BEFORE + [table([20], [9])], shown), ask_behind(self.BEFORE, shown))
        self.assertEqual(ask_behind(self.BEFORE, [table([20], [9]), state()]), [[1], [5, 9, 4, 1, 7, 9, 3]])


class Ratio(RefusalCase):
    def assert_ratio_refused(self, p, q, near):
        self.assert_refused(ratio(p, q, near))
        self.assertEqual(ask(start([5]), ratio(p, q, near), state()), [[1], [-22], [1, 0, 0, 0, 100, 30, 20]])

    def test_p_and_q_are_1_to_1000(self):
        self.assert_taken(ratio(1, 1, 20), [0])
        self.assert_taken(ratio(1000, 1, 20), [0])
        self.assert_taken(ratio(1, 1000, 20), [0])
        self.assert_taken(ratio(1000, 1000, 20), [0])
        for wrong in (0, 1001, MOST):
            with self.subTest(wrong):
                self.assert_ratio_refused(wrong, 30, 20)
                self.assert_ratio_refused(100, wrong, 20)
                self.assert_ratio_refused(wrong, wrong, 20)

    def test_near_is_at_most_500(self):
        self.assert_taken(ratio(100, 30, 0), [0])
        self.assert_taken(ratio(100, 30, 500), [0])
        self.assert_ratio_refused(100, 30, 501)
        self.assert_ratio_refused(100, 30, MOST)

    def test_is_the_ratio_from_then_on(self):
        self.assertEqual(ask_behind(self.BEFORE, [hard(7), ratio(2, 1, 500), hard(2), hard(7), state()]),
                         [[9, 9], [0], [1, 1], [2, 5], [5, 9, 4, 2, 2, 1, 500]])

    def test_changes_nothing_else(self):
        shown = [one for one in probes(5) if one[0] not in (hard(1)[0], state()[0])]
        self.assertEqual(ask_behind(self.BEFORE + [ratio(1, 2, 3)], shown), ask_behind(self.BEFORE, shown))
        self.assertEqual(ask_behind(self.BEFORE, [ratio(1, 2, 3), state()]), [[0], [5, 9, 4, 2, 1, 2, 3]])


if __name__ == "__main__":
    unittest.main()
