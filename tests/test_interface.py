"""The interface: how calls and answers stand in their lists, and that nothing is changed or kept."""

import contextlib
import io
import unittest

from resindrawn.bed import answers
from tests.lines import (MOST, air, ask, cell, fewest, front, good, hard, in_time, inlets, last, line_of, mixed, ratio,
                         sets, soonest, start, state, table, time, vents, warmest, wet, whom)


class Unchanged(list):
    """A list that fails where something would change it, even for a while."""

    def refuse(self, *told):
        raise AssertionError("the list handed in is changed")

    append = extend = insert = pop = remove = clear = sort = reverse = refuse
    __setitem__ = __delitem__ = __iadd__ = __imul__ = refuse


class Lists(unittest.TestCase):
    def test_calls_and_answers_number_by_number(self):
        calls = [0, 4, 1, 1, 1, 1,
                 1, 3, 2,
                 2, 9,
                 3, 1,
                 4, 2, 20, 30, 2, 90, 60,
                 5, 100, 30, 20,
                 6, 0, 3,
                 7, 1,
                 8, 2,
                 9,
                 10,
                 11, 25,
                 12, 30,
                 13, 30,
                 14,
                 3, 4,
                 14,
                 15, 30,
                 16, 2,
                 17, 10, 3,
                 18, 200,
                 19, 3,
                 20,
                 7, 4,
                 11, 19,
                 18, 1]
        # the cells resist 1, 1, 1, 2; from the inlet 0 they're wet at 1, 3, from the inlet 3 at 5, 2
        self.assertEqual(answers(calls), [1, 4,
                                          1, 1,
                                          1, 0,
                                          1, 0,
                                          1, 2,
                                          1, 0,
                                          1, 1 + 2 + 3 + 5,
                                          1, 3,
                                          1, 3,
                                          2, 5, 2,
                                          2, 1, 1,
                                          1, 75,
                                          1, 1,
                                          1, 0,
                                          1, -33,
                                          1, 1,
                                          1, 30,
                                          2, 1, 1,
                                          2, 3, 10,
                                          1, 1,
                                          2, 59, 61,
                                          4, 3, 0, 1, 3,
                                          7, 4, 9, 4, 2, 100, 30, 20,
                                          1, -22,
                                          1, -33,
                                          1, -33])

    def test_rows_are_read_to_their_end_when_refused(self):
        self.assertEqual(ask(start([1] * 60), table([1] * 60, [2] * 60), start([5]), table([1] * 60, []),
                             table([], [2] * 60), table([7], [8]), start([]), time(0, 0)),
                         [[-22], [-11], [1], [-22], [-22], [1], [-22], [5]])

    def test_what_is_told_is_not_taken_for_calls(self):
        self.assertEqual(ask(wet(0), time(0, 0), ratio(0, 1, 5), cell(0, 1), sets(0), in_time(0), good(0), fewest(0),
                             soonest(0), mixed(0, 1), hard(0), front(0), start([9]), time(0, 0)),
                         [[-11]] * 12 + [[1], [9]])

    def test_one_call(self):
        self.assertEqual(answers([0, 1, 5]), [1, 1])
        self.assertEqual(answers([9]), [1, -11])

    def test_answers_are_a_list_of_whole_numbers(self):
        asked = [in_time(1), good(1), in_time(9), good(9), warmest(), fewest(1), soonest(1), mixed(1, 1), mixed(1, 2),
                 hard(1), front(1), state(), sets(1), sets(9)]
        given = answers(line_of([air(), start([1, 1]), inlets(3), vents(0), table([1], [2]), ratio(1, 1, 1), time(0, 1),
                                 wet(0), whom(0), last(), air()] + asked + [vents(1)] + asked + [cell(0, 4), wet(9)]))
        self.assertIs(type(given), list)
        self.assertEqual({type(number) for number in given}, {int})

    def test_200_calls(self):
        calls = [start([1] * 8), inlets(255)] + [air()] * 198
        self.assertEqual(ask(*calls), [[8], [0]] + [[7, 0, 1, 2, 3, 4, 5, 6]] * 198)

    def test_200_calls_of_the_slowest(self):
        # with all cells vents and 3600 minutes each set of inlets is good; with 100 only all cells as inlets are
        before = [start([100] * 8), inlets(255), vents(255)]
        enough = before + [table([0, 100], [3600, 3600])]
        scarce = before + [table([0, 100], [100, 100])]
        for calls, asked, answer in ((enough, fewest(50), [1, 1]), (scarce, fewest(50), [8, 255]),
                                     (enough, soonest(4), [300, 75]), (enough, warmest(), [100]),
                                     (scarce, warmest(), [100]), (scarce[:2] + scarce[3:], warmest(), [-33]),
                                     (scarce[:2] + scarce[3:], fewest(50), [-33])):
            with self.subTest(asked=asked, answer=answer):
                times = 200 - len(calls)
                self.assertEqual(ask(*calls, *[asked] * times)[len(calls):], [answer] * times)

    def test_200_calls_with_the_longest_rows(self):
        longest = table([MOST] * 60, [MOST] * 60)
        self.assertEqual(ask(*[longest] * 200), [[-11]] * 200)
        self.assertEqual(ask(start([1]), *[longest] * 199), [[1]] + [[-22]] * 199)
        self.assertEqual(ask(*[start([MOST] * 60)] * 200), [[-22]] * 200)

    def test_the_greatest_numbers_everywhere(self):
        self.assertEqual(ask(start([MOST]), start([5, 5]), cell(MOST, MOST), inlets(MOST), vents(MOST),
                             table([MOST], [MOST]), ratio(MOST, MOST, MOST), time(MOST, MOST), wet(MOST), whom(MOST),
                             soonest(MOST), mixed(MOST, MOST), hard(MOST), sets(MOST), in_time(MOST), good(MOST),
                             fewest(MOST), front(MOST)),
                         [[-22], [2]] + [[-22]] * 11 + [[-33], [0], [0], [-33], [0]])


class NothingChangedOrKept(unittest.TestCase):
    CALLS = [wet(0), start([3, 1, 4, 1, 5]), inlets(0b10001), vents(2), cell(2, 9), table([5, 6], [7, 8]),
             ratio(2, 3, 4), time(0, 4), wet(2), whom(2), last(), air(), sets(5), in_time(5), good(6), warmest(),
             fewest(6), soonest(2), mixed(2, 3), hard(2), front(8), state(), start([]), start([2, 2]), cell(0, 1),
             inlets(3), air(), last(), sets(5), state()]
    LINE = line_of(CALLS)

    def test_all_21_calls_stand_in_the_list(self):
        self.assertEqual({call[0] for call in self.CALLS}, set(range(21)))
        self.assertEqual(len(ask(*self.CALLS)), len(self.CALLS))

    def test_the_list_is_the_same_afterwards(self):
        line = list(self.LINE)
        answers(line)
        self.assertEqual(line, self.LINE)

    def test_the_list_is_not_changed_for_a_while_either(self):
        self.assertEqual(answers(Unchanged(self.LINE)), answers(self.LINE))

    def test_the_same_list_answers_the_same_twice(self):
        self.assertEqual(answers(self.LINE), answers(self.LINE))

    def test_what_was_given_back_may_be_changed(self):
        given = answers(self.LINE)
        kept = list(given)
        given.clear()
        self.assertEqual(answers(self.LINE), kept)

    def test_another_list_finds_a_new_object(self):
        answers(self.LINE)
        self.assertEqual(ask(last(), inlets(1)), [[-11], [-11]])
        self.assertEqual(ask(start([4, 4]), last(), inlets(0), vents(0), sets(5), state()),
                         [[2], [-6], [0], [0], [-33], [2, 0, 0, 0, 100, 30, 20]])

    def test_nothing_is_printed(self):
        printed = io.StringIO()
        with contextlib.redirect_stdout(printed), contextlib.redirect_stderr(printed):
            answers(self.LINE)
        self.assertEqual(printed.getvalue(), "")


if __name__ == "__main__":
    unittest.main()
