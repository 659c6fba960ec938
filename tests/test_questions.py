"""Point 2: time, wet, whom, last, air, front; with the document's corners."""

import unittest

from tests.lines import (MOST, air, ask, ask_behind, cell, fewest, front, good, hard, in_time, inlets, last, mixed,
                         mixed_rows, probes, ratio, sets, soonest, start, state, table, time, vents, warmest, wet,
                         whom)


def asked_of_each(call, before, how_many):
    return [answer[0] for answer in ask_behind(before, [call(j) for j in range(how_many)])]


class Time(unittest.TestCase):
    def test_to_its_own_cell_it_takes_what_that_resists(self):
        self.assertEqual(ask_behind([start([3, 1, 4])], [time(0, 0), time(1, 1), time(2, 2)]), [[3], [1], [4]])

    def test_goes_to_either_side(self):
        # from 0: 3, then 3+1, then 3+1+4; from 2: 4, then 4+1, then 4+1+3
        self.assertEqual(ask_behind([start([3, 1, 4])], [time(0, 1), time(0, 2), time(2, 1), time(2, 0)]),
                         [[3 + 4], [3 + 4 + 8], [4 + 5], [4 + 5 + 8]])

    def test_from_the_middle(self):
        self.assertEqual(ask_behind([start([3, 1, 4])], [time(1, 0), time(1, 2)]), [[1 + 4], [1 + 5]])

    def test_there_and_back_need_not_be_alike(self):
        self.assertEqual(ask_behind([start([1, 100])], [time(0, 1), time(1, 0)]), [[1 + 101], [100 + 101]])

    def test_the_longest(self):
        self.assertEqual(ask_behind([start([100] * 8)], [time(0, 7), time(7, 0)]), [[3600], [3600]])

    def test_needs_no_inlet_there(self):
        self.assertEqual(ask_behind([start([2, 3]), inlets(2)], [time(0, 1)]), [[2 + 5]])

    def test_refuses_cells_that_there_are_not(self):
        for a, j in ((3, 0), (0, 3), (3, 3), (MOST, 0), (0, MOST), (8, 8)):
            with self.subTest(a=a, j=j):
                self.assertEqual(ask_behind([start([3, 1, 4])], [time(a, j), time(2, 2)]), [[-22], [4]])

    def test_one_cell(self):
        self.assertEqual(ask_behind([start([100])], [time(0, 0), time(0, 1), time(1, 0)]), [[100], [-22], [-22]])


class WetAndWhom(unittest.TestCase):
    def test_one_inlet_wets_all(self):
        before = [start([3, 1, 4]), inlets(2)]
        self.assertEqual(asked_of_each(wet, before, 3), [5, 1, 6])
        self.assertEqual(asked_of_each(whom, before, 3), [1, 1, 1])

    def test_the_first_front_counts(self):
        before = [start([1, 1, 1, 1, 1]), inlets(0b10010)]
        self.assertEqual(asked_of_each(wet, before, 5), [3, 1, 3, 3, 1])
        self.assertEqual(asked_of_each(whom, before, 5), [1, 1, 1, 4, 4])

    def test_two_fronts_at_one_minute_the_lesser_number_wets(self):
        before = [start([2, 5, 2]), inlets(0b101)]
        self.assertEqual(ask_behind(before, [time(0, 1), time(2, 1), wet(1), whom(1), whom(2)]),
                         [[9], [9], [9], [0], [2]])

    def test_fronts_from_unlike_ways_at_one_minute(self):
        # 2, then 2+1, then 2+1+2 from the left; 4, then 4+2 from the right
        before = [start([2, 1, 2, 4]), inlets(0b1001)]
        self.assertEqual(ask_behind(before, [time(0, 2), time(3, 2), wet(2), whom(2), whom(3)]),
                         [[10], [10], [10], [0], [3]])

    def test_an_inlet_at_an_end(self):
        left = [start([3, 1, 4]), inlets(1)]
        right = [start([3, 1, 4]), inlets(4)]
        self.assertEqual(asked_of_each(wet, left, 3), [3, 7, 15])
        self.assertEqual(asked_of_each(whom, left, 3), [0, 0, 0])
        self.assertEqual(asked_of_each(wet, right, 3), [17, 9, 4])
        self.assertEqual(asked_of_each(whom, right, 3), [2, 2, 2])

    def test_all_cells_inlets(self):
        cells = [100, 1, 50, 2, 99, 3, 98, 4]
        before = [start(cells), inlets(255)]
        self.assertEqual(asked_of_each(wet, before, 8), cells)
        self.assertEqual(asked_of_each(whom, before, 8), list(range(8)))

    def test_inlets_told_anew_count_alone(self):
        before = [start([3, 1, 4]), inlets(1), inlets(4)]
        self.assertEqual(asked_of_each(whom, before, 3), [2, 2, 2])

    def test_vents_do_not_matter(self):
        before = [start([3, 1, 4]), inlets(5)]
        for bits in range(8):
            self.assertEqual(asked_of_each(wet, before + [vents(bits)], 3), asked_of_each(wet, before, 3))
            self.assertEqual(asked_of_each(whom, before + [vents(bits)], 3), asked_of_each(whom, before, 3))

    def test_refuse_a_cell_that_there_is_not(self):
        for call in (wet, whom):
            for j in (3, 4, 8, MOST):
                with self.subTest(call.__name__, j=j):
                    self.assertEqual(ask_behind([start([3, 1, 4]), inlets(1)], [call(j)]), [[-22]])

    def test_refuse_without_an_inlet(self):
        for call in (wet, whom):
            with self.subTest(call.__name__):
                self.assertEqual(ask_behind([start([3, 1, 4])], [call(0), call(2)]), [[-6], [-6]])
                self.assertEqual(ask_behind([start([3, 1, 4]), inlets(7), inlets(0)], [call(1)]), [[-6]])

    def test_the_cell_is_refused_ahead_of_the_inlet(self):
        for call in (wet, whom):
            with self.subTest(call.__name__):
                self.assertEqual(ask_behind([start([3, 1, 4])], [call(3), call(MOST)]), [[-22], [-22]])


class Last(unittest.TestCase):
    def test_tells_when_and_where(self):
        self.assertEqual(ask_behind([start([3, 1, 4]), inlets(1)], [last()]), [[15, 2]])
        self.assertEqual(ask_behind([start([3, 1, 4]), inlets(4)], [last()]), [[17, 0]])
        self.assertEqual(ask_behind([start([3, 1, 4]), inlets(2)], [last()]), [[6, 2]])

    def test_of_cells_at_one_minute_the_first(self):
        self.assertEqual(ask_behind([start([1, 1, 1]), inlets(2)], [last()]), [[3, 0]])
        self.assertEqual(ask_behind([start([1, 1, 1, 1]), inlets(0b1001)], [last()]), [[3, 1]])
        self.assertEqual(ask_behind([start([7] * 8), inlets(255)], [last()]), [[7, 0]])

    def test_all_cells_inlets(self):
        self.assertEqual(ask_behind([start([3, 1, 4, 1, 4]), inlets(31)], [last()]), [[4, 2]])

    def test_one_cell(self):
        self.assertEqual(ask_behind([start([100]), inlets(1)], [last()]), [[100, 0]])

    def test_refuses_without_an_inlet(self):
        self.assertEqual(ask_behind([start([3])], [last()]), [[-6]])
        self.assertEqual(ask_behind([start([3]), inlets(1), inlets(0)], [last()]), [[-6]])

    def test_a_vent_is_no_inlet(self):
        self.assertEqual(ask_behind([start([3]), vents(1)], [last(), wet(0), whom(0)]), [[-6], [-6], [-6]])


class Air(unittest.TestCase):
    def assert_air(self, cells, inlet_bits, vent_bits, places):
        self.assertEqual(ask_behind([start(cells), inlets(inlet_bits), vents(vent_bits)], [air()]),
                         [[len(places)] + places])

    def test_where_two_fronts_meet(self):
        self.assert_air([1, 1, 1, 1], 0b1001, 0, [1])
        self.assert_air([2, 5, 2], 0b101, 0, [1])

    def test_one_inlet_shuts_none_in(self):
        for j in range(4):
            self.assert_air([1, 9, 1, 9], 1 << j, 0, [])

    def test_no_inlet_shuts_none_in(self):
        self.assert_air([1, 1, 1, 1], 0, 0, [])
        self.assert_air([1, 1, 1, 1], 0, 15, [])

    def test_one_cell(self):
        self.assert_air([5], 1, 0, [])

    def test_a_vent_on_either_side_of_where_they_meet(self):
        self.assert_air([1, 1, 1, 1], 0b1001, 0b0010, [])
        self.assert_air([1, 1, 1, 1], 0b1001, 0b0100, [])
        self.assert_air([1, 1, 1, 1], 0b1001, 0b0110, [])

    def test_a_vent_just_beside_is_none_there(self):
        self.assert_air([1, 1, 1, 1], 0b1001, 0b0001, [1])
        self.assert_air([1, 1, 1, 1], 0b1001, 0b1000, [1])
        self.assert_air([1, 1, 1, 1], 0b1001, 0b1001, [1])

    def test_a_vent_one_cell_further_each_way(self):
        self.assert_air([1] * 6, 0b100001, 0b000010, [2])
        self.assert_air([1] * 6, 0b100001, 0b000100, [])
        self.assert_air([1] * 6, 0b100001, 0b001000, [])
        self.assert_air([1] * 6, 0b100001, 0b010000, [2])

    def test_all_cells_inlets(self):
        self.assert_air([9] * 8, 255, 0, [0, 1, 2, 3, 4, 5, 6])
        self.assert_air([9] * 8, 255, 0b00001000, [0, 1, 4, 5, 6])
        self.assert_air([9] * 8, 255, 0b00000001, [1, 2, 3, 4, 5, 6])
        self.assert_air([9] * 8, 255, 0b10000000, [0, 1, 2, 3, 4, 5])
        self.assert_air([9] * 8, 255, 0b10101010, [])
        self.assert_air([9] * 8, 255, 255, [])

    def test_several_places_rising(self):
        self.assert_air([1] * 8, 0b10010001, 0, [2, 5])

    def test_a_cell_told_anew_moves_the_place(self):
        # the left front begins so late that it wets its own cell alone
        self.assertEqual(ask_behind([start([1, 1, 1, 1]), inlets(0b1001)], [air(), cell(0, 100), air()]),
                         [[1, 1], [1], [1, 0]])


class Front(unittest.TestCase):
    # from the inlet 1 the cells are wet at 5, 1, 6
    ROW = [start([3, 1, 4]), inlets(0b010)]

    def test_just_when_a_cell_gets_wet_and_one_minute_sooner(self):
        self.assertEqual(ask_behind(self.ROW, [front(n) for n in range(8)]),
                         [[0], [1, 1], [1, 1], [1, 1], [1, 1], [2, 0, 1], [3, 0, 1, 2], [3, 0, 1, 2]])

    def test_no_inlet(self):
        for n in (0, 1, 100, 100000, MOST):
            with self.subTest(n):
                self.assertEqual(ask_behind([start([3, 1, 4])], [front(n)]), [[0]])
                self.assertEqual(ask_behind(self.ROW + [vents(7), inlets(0)], [front(n)]), [[0]])

    def test_n_at_0(self):
        self.assertEqual(ask_behind([start([1] * 8), inlets(255)], [front(0), front(1)]),
                         [[0], [8, 0, 1, 2, 3, 4, 5, 6, 7]])

    def test_the_greatest_n(self):
        self.assertEqual(ask_behind(self.ROW, [front(MOST)]), [[3, 0, 1, 2]])
        self.assertEqual(ask_behind([start([100] * 8), inlets(1)], [front(3599), front(3600), front(MOST)]),
                         [[7, 0, 1, 2, 3, 4, 5, 6], [8, 0, 1, 2, 3, 4, 5, 6, 7], [8, 0, 1, 2, 3, 4, 5, 6, 7]])

    def test_cells_apart_rising(self):
        self.assertEqual(ask_behind([start([1, 9, 1, 9, 2]), inlets(0b10101)],
                                    [front(1), front(2), front(10), front(11)]),
                         [[2, 0, 2], [3, 0, 2, 4], [3, 0, 2, 4], [5, 0, 1, 2, 3, 4]])

    def test_a_later_cell_before_an_earlier_one(self):
        self.assertEqual(ask_behind([start([3, 1, 4]), inlets(0b100)], [front(n) for n in (3, 4, 8, 9, 16, 17)]),
                         [[0], [1, 2], [1, 2], [2, 1, 2], [2, 1, 2], [3, 0, 1, 2]])

    def test_one_cell(self):
        self.assertEqual(ask_behind([start([100]), inlets(1)], [front(99), front(100)]), [[0], [1, 0]])

    def test_what_is_told_anew_counts(self):
        self.assertEqual(ask_behind(self.ROW, [front(5), cell(1, 2), front(5), inlets(0b011), front(5)]),
                         [[2, 0, 1], [1], [1, 1], [2], [2, 0, 1]])

    def test_agrees_with_wet(self):
        for k, cells in enumerate(mixed_rows(83, 40)):
            before = [start(cells), inlets(1 + k * 11 % ((1 << len(cells)) - 1))]
            minutes = asked_of_each(wet, before, len(cells))
            for n in sorted({m + more for m in minutes for more in (-1, 0, 1)}):
                expected = [j for j in range(len(cells)) if minutes[j] <= n]
                with self.subTest(cells, n=n):
                    self.assertEqual(ask_behind(before, [front(n)]), [[len(expected)] + expected])


class AskingChangesNothing(unittest.TestCase):
    BEFORE = [start([3, 1, 4, 1]), inlets(0b1001), vents(0b0001), table([10, 20], [30, 5]), ratio(7, 9, 3)]

    def test_asked_twice_all_is_the_same(self):
        shown = probes(4)
        twice = ask_behind(self.BEFORE, shown + shown)
        self.assertEqual(twice[:len(shown)], twice[len(shown):])

    def test_each_question_leaves_all_as_it_was(self):
        shown = probes(4)
        as_before = ask_behind(self.BEFORE, shown)
        for asked in (time(0, 3), wet(1), whom(1), last(), air(), sets(10), sets(13), in_time(12), good(12), warmest(),
                      fewest(10), fewest(20), soonest(1), soonest(2), soonest(4), mixed(7, 9), mixed(7, 1), hard(7),
                      hard(200), front(5), front(MOST), state()):
            with self.subTest(asked):
                self.assertEqual(ask_behind(self.BEFORE + [asked], shown), as_before)

    def test_refused_questions_change_nothing(self):
        refused = [time(4, 0), time(0, 4), wet(4), whom(4), wet(MOST), whom(MOST), soonest(0), soonest(5),
                   soonest(MOST), mixed(10001, 0), mixed(0, 10001), hard(0), hard(201)]
        by_none = [sets(9), sets(MOST), fewest(21), fewest(MOST), hard(1)]
        shown = probes(4)
        self.assertEqual(ask_behind(self.BEFORE + refused + by_none, shown), ask_behind(self.BEFORE, shown))
        self.assertEqual(ask_behind(self.BEFORE, refused), [[-22]] * len(refused))
        self.assertEqual(ask_behind(self.BEFORE, by_none), [[-33]] * len(by_none))

    def test_refused_for_want_of_an_inlet_changes_nothing(self):
        shown = probes(2)
        refused = [wet(0), whom(1), last(), warmest()]
        self.assertEqual(ask_behind([start([3, 1])] + refused, shown), ask_behind([start([3, 1])], shown))
        self.assertEqual(ask(start([3, 1]), *refused), [[2], [-6], [-6], [-6], [-33]])


if __name__ == "__main__":
    unittest.main()
