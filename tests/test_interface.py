"""The interface: how calls and answers stand in their lists, and that nothing is changed or kept."""

import unittest

from resindrawn.bed import answers
from tests.lines import (MOST, air, ask, cell, inlets, last, line_of, numbers_from, parted, ratio, start, table, time,
                         vents, wet, whom)


class Unchanged(list):
    """A list that fails where something would change it, even for a while."""

    def refuse(self, *told):
        raise AssertionError("the list handed in is changed")

    append = extend = insert = pop = remove = clear = sort = reverse = refuse
    __setitem__ = __delitem__ = __iadd__ = __imul__ = refuse


def mixed_call(numbers):
    """One call, often as it should be, at times with a number that's refused."""
    def pick(*choices):
        return choices[next(numbers) % len(choices)]

    def place():
        return pick(0, 1, 2, 3, 4, 5, 6, 7, 8, MOST)

    def some(least, most):
        return [pick(1, 2, 3, 10, 50, 100) for k in range(least + next(numbers) % (most - least + 1))]

    kind = next(numbers) % 24
    if kind == 0:
        return start(pick(some(1, 8), some(3, 8), some(0, 60), [0], [101]))
    if kind == 1:
        rows = next(numbers) % 10
        return table(list(range(rows)), [next(numbers) % 100002 for k in range(pick(rows, rows, 3))])
    if kind == 2:
        return ratio(pick(1, 7, 1000, 0, 1001), pick(1, 9, 1000), pick(0, 500, 501))
    if kind < 6:
        return cell(place(), pick(1, 5, 100, 0, 101, MOST))
    if kind < 10:
        return inlets(pick(next(numbers) % 16, next(numbers) % 256, 0, MOST))
    if kind < 13:
        return vents(pick(next(numbers) % 16, next(numbers) % 256, MOST))
    return (lambda: time(place(), place()), lambda: wet(place()), lambda: whom(place()), last, air)[kind % 5]()


class Model:
    """The document's words for calls 0 to 10, written a second way to compare with."""

    def __init__(self):
        self.cells = None

    def answer(self, call):
        if call[0] == 0:
            cells = call[2:]
            if len(cells) not in range(1, 9) or set(cells) - set(range(1, 101)):
                return [-22]
            self.cells = dict(enumerate(cells))
            self.told = {2: set(), 3: set()}
            return [len(cells)]
        if self.cells is None:
            return [-11]
        return (None, self.cell, self.bits, self.bits, self.table, self.ratio, self.time, self.wet, self.wet,
                self.last, self.air)[call[0]](call)

    def cell(self, call):
        if call[1] not in self.cells or call[2] not in range(1, 101):
            return [-22]
        before = self.cells[call[1]]
        self.cells[call[1]] = call[2]
        return [before]

    def bits(self, call):
        named = {i for i in range(32) if call[1] & (1 << i)}
        if named - set(self.cells):
            return [-22]
        before = sum(1 << i for i in self.told[call[0]])
        self.told[call[0]] = named
        return [before]

    def table(self, call):
        warmths = call[2:2 + call[1]]
        minutes = call[3 + call[1]:]
        right = len(warmths) == len(minutes) and len(warmths) in range(1, 9) and warmths == sorted(set(warmths))
        return [len(warmths)] if right and max(warmths) <= 100 and max(minutes) <= 100000 else [-22]

    def ratio(self, call):
        return [0] if call[1] in range(1, 1001) and call[2] in range(1, 1001) and call[3] <= 500 else [-22]

    def minutes(self, a, j):
        if a == j:
            return self.cells[a]
        nearer = j - 1 if a < j else j + 1
        return self.minutes(a, nearer) + sum(self.cells[k] for k in range(min(a, j), max(a, j) + 1))

    def time(self, call):
        return [self.minutes(call[1], call[2])] if {call[1], call[2]} <= set(self.cells) else [-22]

    def first(self, j):
        return min((self.minutes(a, j), a) for a in self.told[2])

    def wet(self, call):
        if call[1] not in self.cells:
            return [-22]
        return [self.first(call[1])[call[0] - 7]] if self.told[2] else [-6]

    def last(self, call):
        if not self.told[2]:
            return [-6]
        minutes, minus_cell = max((self.first(j)[0], -j) for j in self.cells)
        return [minutes, -minus_cell]

    def air(self, call):
        if not self.told[2]:
            return [0]
        places = [j for j in self.cells if j + 1 in self.cells and self.first(j)[1] != self.first(j + 1)[1]
                  and not {j, j + 1} & self.told[3]]
        return [len(places)] + places


class Lists(unittest.TestCase):
    def test_calls_and_answers_number_by_number(self):
        calls = [0, 4, 1, 1, 1, 1,
                 1, 3, 2,
                 2, 9,
                 3, 1,
                 4, 2, 20, 30, 2, 90, 60,
                 5, 100, 30, 20,
                 6, 0, 3,
                 7, 1,
                 8, 2,
                 9,
                 10,
                 7, 4]
        # the cells resist 1, 1, 1, 2; from the inlet 0 they're wet at 1, 3, from the inlet 3 at 5, 2
        self.assertEqual(answers(calls), [1, 4,
                                          1, 1,
                                          1, 0,
                                          1, 0,
                                          1, 2,
                                          1, 0,
                                          1, 1 + 2 + 3 + 5,
                                          1, 3,
                                          1, 3,
                                          2, 5, 2,
                                          2, 1, 1,
                                          1, -22])

    def test_rows_are_read_to_their_end_when_refused(self):
        self.assertEqual(ask(start([1] * 60), table([1] * 60, [2] * 60), start([5]), table([1] * 60, []),
                             table([], [2] * 60), table([7], [8]), start([]), time(0, 0)),
                         [[-22], [-11], [1], [-22], [-22], [1], [-22], [5]])

    def test_what_is_told_is_not_taken_for_calls(self):
        self.assertEqual(ask(wet(0), time(0, 0), ratio(0, 1, 5), cell(0, 1), start([9]), time(0, 0)),
                         [[-11], [-11], [-11], [-11], [1], [9]])

    def test_one_call(self):
        self.assertEqual(answers([0, 1, 5]), [1, 1])
        self.assertEqual(answers([9]), [1, -11])

    def test_answers_are_a_list_of_whole_numbers(self):
        given = answers(line_of([air(), start([1, 1]), inlets(3), vents(0), table([1], [2]), ratio(1, 1, 1), time(0, 1),
                                 wet(0), whom(0), last(), air(), cell(0, 4), wet(9)]))
        self.assertIs(type(given), list)
        self.assertEqual({type(number) for number in given}, {int})

    def test_200_calls(self):
        calls = [start([1] * 8), inlets(255)] + [air()] * 198
        self.assertEqual(ask(*calls), [[8], [0]] + [[7, 0, 1, 2, 3, 4, 5, 6]] * 198)

    def test_200_calls_with_the_longest_rows(self):
        longest = table([MOST] * 60, [MOST] * 60)
        self.assertEqual(ask(*[longest] * 200), [[-11]] * 200)
        self.assertEqual(ask(start([1]), *[longest] * 199), [[1]] + [[-22]] * 199)
        self.assertEqual(ask(*[start([MOST] * 60)] * 200), [[-22]] * 200)

    def test_the_greatest_numbers_everywhere(self):
        self.assertEqual(ask(start([MOST]), start([5, 5]), cell(MOST, MOST), inlets(MOST), vents(MOST),
                             table([MOST], [MOST]), ratio(MOST, MOST, MOST), time(MOST, MOST), wet(MOST), whom(MOST)),
                         [[-22], [2]] + [[-22]] * 8)


class NothingChangedOrKept(unittest.TestCase):
    LINE = line_of([wet(0), start([3, 1, 4, 1, 5]), inlets(0b10001), vents(2), cell(2, 9), table([5, 6], [7, 8]),
                    ratio(2, 3, 4), time(0, 4), wet(2), whom(2), last(), air(), start([]), start([2, 2]), cell(0, 1),
                    inlets(3), air(), last()])

    def test_the_list_is_the_same_afterwards(self):
        line = list(self.LINE)
        answers(line)
        self.assertEqual(line, self.LINE)

    def test_the_list_is_not_changed_for_a_while_either(self):
        self.assertEqual(answers(Unchanged(self.LINE)), answers(self.LINE))

    def test_the_same_list_answers_the_same_twice(self):
        self.assertEqual(answers(self.LINE), answers(self.LINE))

    def test_what_was_given_back_may_be_changed(self):
        given = answers(self.LINE)
        kept = list(given)
        given.clear()
        self.assertEqual(answers(self.LINE), kept)

    def test_another_list_finds_a_new_object(self):
        answers(self.LINE)
        self.assertEqual(ask(last(), inlets(1)), [[-11], [-11]])
        self.assertEqual(ask(start([4, 4]), last(), inlets(0), vents(0)), [[2], [-6], [0], [0]])


class AgainstTheModel(unittest.TestCase):
    def test_many_mixed_lines(self):
        numbers = numbers_from(2026)
        seen = {}
        for k in range(150):
            calls = [start([1 + next(numbers) % 9 for j in range(1 + k % 8)])] if k % 5 else []
            while len(calls) < 200:
                calls.append(mixed_call(numbers))
            model = Model()
            expected = [model.answer(call) for call in calls]
            self.assertEqual(parted(answers(line_of(calls))), expected)
            for call, answer in zip(calls, expected):
                seen[call[0], min(answer[0], 0)] = True
        # each call was answered, and refused in each way that it can be
        taken = [(number, 0) for number in range(11)]
        early = [(number, -11) for number in range(1, 11)]
        refused = [(number, -22) for number in range(9)]
        self.assertEqual(sorted(seen), sorted(taken + early + refused + [(7, -6), (8, -6), (9, -6)]))


if __name__ == "__main__":
    unittest.main()
