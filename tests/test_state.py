"""Point 4: state."""

import unittest

from tests.lines import (MOST, ask, ask_behind, cell, fewest, good, hard, inlets, mixed, ratio, soonest, start, state,
                         table, vents, warmest)


class State(unittest.TestCase):
    BEFORE = [start([3, 1, 4, 1, 5]), inlets(0b01001), vents(0b00100), table([10, 20], [30, 15]), ratio(7, 9, 3)]
    SHOWN = [5, 0b01001, 0b00100, 2, 7, 9, 3]

    def assert_state(self, before, shown):
        self.assertEqual(ask_behind(before, [state()]), [shown])

    def test_before_a_start(self):
        self.assertEqual(ask(state(), start([0]), state()), [[-11], [-22], [-11]])

    def test_behind_start(self):
        for how_many in range(1, 9):
            with self.subTest(how_many):
                self.assert_state([start([9] * how_many)], [how_many, 0, 0, 0, 100, 30, 20])

    def test_behind_each_call_that_changes_something(self):
        shown = ask_behind([start([3, 1, 4])], [inlets(5), state(), vents(2), state(), table([1, 2], [3, 4]), state(),
                                                ratio(11, 12, 13), state(), cell(0, 8), state()])[1::2]
        self.assertEqual(shown, [[3, 5, 0, 0, 100, 30, 20],
                                 [3, 5, 2, 0, 100, 30, 20],
                                 [3, 5, 2, 2, 100, 30, 20],
                                 [3, 5, 2, 2, 11, 12, 13],
                                 [3, 5, 2, 2, 11, 12, 13]])

    def test_each_alone(self):
        row = [start([3, 1, 4])]
        self.assert_state(row + [inlets(6)], [3, 6, 0, 0, 100, 30, 20])
        self.assert_state(row + [vents(6)], [3, 0, 6, 0, 100, 30, 20])
        self.assert_state(row + [table(list(range(8)), [9] * 8)], [3, 0, 0, 8, 100, 30, 20])
        self.assert_state(row + [ratio(1000, 1, 500)], [3, 0, 0, 0, 1000, 1, 500])
        self.assert_state(row + [ratio(1, 1000, 0)], [3, 0, 0, 0, 1, 1000, 0])

    def test_what_is_told_anew_counts(self):
        self.assert_state(self.BEFORE + [inlets(0)], [5, 0, 4, 2, 7, 9, 3])
        self.assert_state(self.BEFORE + [vents(31)], [5, 9, 31, 2, 7, 9, 3])
        self.assert_state(self.BEFORE + [table([5], [5])], [5, 9, 4, 1, 7, 9, 3])
        self.assert_state(self.BEFORE + [ratio(9, 7, 500)], [5, 9, 4, 2, 9, 7, 500])

    def test_behind_a_refused_one(self):
        self.assert_state(self.BEFORE, self.SHOWN)
        for refused in (start([]), start([0]), start([1] * 9), cell(5, 1), cell(0, 0), inlets(32), vents(MOST),
                        table([], []), table([1], []), table([2, 1], [5, 5]), ratio(0, 1, 1), ratio(1, 1001, 1),
                        ratio(1, 1, 501)):
            with self.subTest(refused):
                self.assertEqual(ask_behind(self.BEFORE, [refused, state()]), [[-22], self.SHOWN])

    def test_behind_questions(self):
        for asked in (fewest(10), fewest(99), soonest(2), soonest(9), warmest(), good(10), mixed(1, 1), hard(200),
                      hard(0), state()):
            with self.subTest(asked):
                self.assert_state(self.BEFORE + [asked], self.SHOWN)

    def test_behind_a_second_start(self):
        self.assert_state(self.BEFORE + [start([2])], [1, 0, 0, 0, 100, 30, 20])
        self.assert_state(self.BEFORE + [start([2] * 8)], [8, 0, 0, 0, 100, 30, 20])

    def test_the_fullest(self):
        self.assert_state([start([100] * 8), inlets(255), vents(255), table(list(range(93, 101)), [100000] * 8),
                           ratio(1000, 1000, 500)], [8, 255, 255, 8, 1000, 1000, 500])


if __name__ == "__main__":
    unittest.main()
