"""Many mixed lists of calls, against the document's words written a second way."""

import fractions
import itertools
import unittest

from resindrawn.bed import answers
from tests.lines import (MOST, air, cell, fewest, front, good, hard, in_time, inlets, last, line_of, mixed,
                         numbers_from, parted, ratio, sets, soonest, start, state, table, time, vents, warmest, wet,
                         whom)


class Mixer:
    """Makes calls, often as they should be, at times with a number that's refused."""

    def __init__(self, seed):
        self.numbers = numbers_from(seed)

    def below(self, most):
        return next(self.numbers) % most

    def pick(self, *choices):
        return choices[self.below(len(choices))]

    def some(self, least, most):
        return [self.pick(1, 2, 3, 10, 50, 100) for k in range(least + self.below(most - least + 1))]

    def place(self):
        return self.pick(0, 1, 2, 3, 4, 5, 6, 7, 8, MOST)

    def bits(self):
        return self.pick(self.below(16), self.below(256), self.below(256), 0, MOST)

    def warmth(self):
        return self.pick(self.below(40), self.below(40), self.below(40), self.below(102), MOST)

    def table(self):
        rows = self.pick(1, 2, 3, 4, 8, self.below(10))
        warmths = sorted({self.below(self.pick(40, 40, 101, 102)) for k in range(rows)})
        most = self.pick(30, 300, 3000, 100001, 100002)
        return table(warmths, [self.below(most) for k in range(self.pick(len(warmths), len(warmths), len(warmths), 3))])

    def ratio(self):
        return ratio(self.pick(1, 7, 100, 1000, 0, 1001), self.pick(1, 9, 30, 1000, 1001), self.pick(0, 20, 500, 501))

    def mixed(self):
        x = self.pick(0, 1, 100, 7, 10000, 10001)
        return mixed(x, self.pick(0, x, 3 * x // 10, 9 * x // 7, 10000, 10001, self.below(200)))

    def change(self):
        kind = self.below(20)
        if kind == 0:
            return start(self.pick(self.some(1, 8), self.some(3, 8), self.some(0, 60), [0], [101]))
        if kind < 5:
            return self.table()
        if kind < 8:
            return self.ratio()
        if kind < 12:
            return cell(self.place(), self.pick(1, 5, 100, 0, 101, MOST))
        return inlets(self.bits()) if kind < 17 else vents(self.bits())

    def question(self):
        return self.pick(
            lambda: time(self.place(), self.place()), lambda: wet(self.place()), lambda: whom(self.place()), last, air,
            lambda: sets(self.warmth()), lambda: in_time(self.warmth()), lambda: good(self.warmth()), warmest,
            lambda: fewest(self.warmth()), lambda: soonest(self.place()), self.mixed,
            lambda: hard(self.pick(self.below(10), self.below(203), MOST)),
            lambda: front(self.pick(0, self.below(20), self.below(1000), MOST)), state)()

    def call(self):
        return self.change() if self.below(3) == 0 else self.question()


class Model:
    """The document's words, written plainly and without regard to how long it takes."""

    def __init__(self):
        self.cells = None

    def answer(self, call):
        if call[0] == 0:
            return self.start(call)
        if self.cells is None:
            return [-11]
        return (None, self.cell, self.bits, self.bits, self.table, self.ratio, self.time, self.wet, self.wet,
                self.last, self.air, self.sets, self.in_time, self.good, self.warmest, self.fewest, self.soonest,
                self.mixed, self.hard, self.front, self.state)[call[0]](call)

    def start(self, call):
        cells = call[2:]
        if len(cells) not in range(1, 9) or set(cells) - set(range(1, 101)):
            return [-22]
        self.cells = dict(enumerate(cells))
        self.told = {2: frozenset(), 3: frozenset()}
        self.rows = []
        self.parts = (100, 30, 20)
        return [len(cells)]

    def cell(self, call):
        if call[1] not in self.cells or call[2] not in range(1, 101):
            return [-22]
        before = self.cells[call[1]]
        self.cells[call[1]] = call[2]
        return [before]

    def bits(self, call):
        named = frozenset(i for i in range(32) if call[1] & (1 << i))
        if named - set(self.cells):
            return [-22]
        before = sum(1 << i for i in self.told[call[0]])
        self.told[call[0]] = named
        return [before]

    def table(self, call):
        warmths = call[2:2 + call[1]]
        minutes = call[3 + call[1]:]
        right = len(warmths) == len(minutes) and len(warmths) in range(1, 9) and warmths == sorted(set(warmths))
        if not right or max(warmths) > 100 or max(minutes) > 100000:
            return [-22]
        self.rows = list(zip(warmths, minutes))
        return [len(warmths)]

    def ratio(self, call):
        if call[1] not in range(1, 1001) or call[2] not in range(1, 1001) or call[3] > 500:
            return [-22]
        self.parts = tuple(call[1:])
        return [0]

    def minutes(self, a, j):
        if a == j:
            return self.cells[a]
        nearer = j - 1 if a < j else j + 1
        return self.minutes(a, nearer) + sum(self.cells[k] for k in range(min(a, j), max(a, j) + 1))

    def time(self, call):
        return [self.minutes(call[1], call[2])] if {call[1], call[2]} <= set(self.cells) else [-22]

    def first(self, j, inlets_there=None):
        return min((self.minutes(a, j), a) for a in inlets_there or self.told[2])

    def wet(self, call):
        if call[1] not in self.cells:
            return [-22]
        return [self.first(call[1])[call[0] - 7]] if self.told[2] else [-6]

    def last(self, call):
        if not self.told[2]:
            return [-6]
        minutes, minus_cell = max((self.first(j)[0], -j) for j in self.cells)
        return [minutes, -minus_cell]

    def places(self, inlets_there):
        return [j for j in self.cells if inlets_there and j + 1 in self.cells and not {j, j + 1} & self.told[3]
                and self.first(j, inlets_there)[1] != self.first(j + 1, inlets_there)[1]]

    def air(self, call):
        return [len(self.places(self.told[2]))] + self.places(self.told[2])

    def setting(self, t):
        for (w, m), (next_w, next_m) in zip(self.rows, self.rows[1:] + self.rows[-1:]):
            if w == t:
                return m
            if w < t < next_w:
                return (m + fractions.Fraction((next_m - m) * (t - w), next_w - w)).__floor__()
        return None

    def sets(self, call):
        return [-33] if self.setting(call[1]) is None else [self.setting(call[1])]

    def is_in_time(self, inlets_there, t):
        limit = self.setting(t)
        return bool(inlets_there) and limit is not None and all(
            self.first(j, inlets_there)[0] <= limit for j in self.cells)

    def is_good(self, inlets_there, t):
        return self.is_in_time(inlets_there, t) and not self.places(inlets_there)

    def in_time(self, call):
        return [int(self.is_in_time(self.told[2], call[1]))]

    def good(self, call):
        return [int(self.is_good(self.told[2], call[1]))]

    def warmest(self, call):
        return next(([t] for t in range(100, -1, -1) if self.is_good(self.told[2], t)), [-33])

    def sets_of(self, k):
        """The sets of so many cells, the one with the least bits first."""
        return sorted(itertools.combinations(self.cells, k), key=lambda named: named[::-1])

    def fewest(self, call):
        if self.setting(call[1]) is None:
            return [-33]
        for k in range(1, len(self.cells) + 1):
            for named in self.sets_of(k):
                if self.is_good(named, call[1]):
                    return [k, sum(1 << j for j in named)]
        return [-33]

    def soonest(self, call):
        if call[1] not in range(1, len(self.cells) + 1):
            return [-22]
        when = [max(self.first(j, named)[0] for j in self.cells) for named in self.sets_of(call[1])]
        return [min(when), sum(1 << j for j in self.sets_of(call[1])[when.index(min(when))])]

    def will_do(self, x, y):
        p, q, near = self.parts
        return abs(x * q - y * p) <= fractions.Fraction(near * x * q, 1000)

    def mixed(self, call):
        return [-22] if max(call[1:]) > 10000 else [int(self.will_do(call[1], call[2]))]

    def hard(self, call):
        if call[1] not in range(1, 201):
            return [-22]
        middle = call[1] * self.parts[1] // self.parts[0]
        # what will do lies around the quotient, so one of the two whole numbers beside it will, if one does
        near = [y for y in (middle, middle + 1) if self.will_do(call[1], y)]
        if not near:
            return [-33]
        least, greatest = near[0], near[-1]
        while self.will_do(call[1], least - 1):
            least -= 1
        while self.will_do(call[1], greatest + 1):
            greatest += 1
        return [least, greatest]

    def front(self, call):
        cells = [j for j in self.cells if self.told[2] and self.first(j)[0] <= call[1]]
        return [len(cells)] + cells

    def state(self, call):
        inlets_told, vents_told = [sum(1 << j for j in self.told[number]) for number in (2, 3)]
        return [len(self.cells), inlets_told, vents_told, len(self.rows)] + list(self.parts)


class AgainstTheModel(unittest.TestCase):
    def test_many_mixed_lines(self):
        mixer = Mixer(2026)
        seen = {}
        for k in range(60):
            calls = [start([1 + mixer.below(9) for j in range(1 + k % 8)])] if k % 5 else []
            while len(calls) < 200:
                calls.append(mixer.call())
            model = Model()
            expected = [model.answer(call) for call in calls]
            self.assertEqual(parted(answers(line_of(calls))), expected)
            for call, answer in zip(calls, expected):
                seen[call[0], min(answer[0], 0)] = True
        # each call was answered, and refused in each way that it can be
        taken = [(number, 0) for number in range(21)]
        early = [(number, -11) for number in range(1, 21)]
        not_as_told = [(number, -22) for number in (0, 1, 2, 3, 4, 5, 6, 7, 8, 16, 17, 18)]
        without_inlet = [(number, -6) for number in (7, 8, 9)]
        by_none = [(number, -33) for number in (11, 14, 15, 18)]
        self.assertEqual(sorted(seen), sorted(taken + early + not_as_told + without_inlet + by_none))


if __name__ == "__main__":
    unittest.main()
