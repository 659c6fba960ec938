"""What holds: a over many rows of cells and every set of inlets, b with vents and tables too, c over many ratios."""

import itertools
import unittest

from tests.lines import (air, ask_behind, ask_many_behind, fewest, good, hard, inlets, inlets_of, last, line_of, mixed,
                         mixed_rows, numbers_from, ratio, soonest, start, table, time, vents, wet, whom)

ROWS = [list(cells) for n in range(1, 5) for cells in itertools.product((1, 2, 100), repeat=n)]
ROWS += mixed_rows(59, 48)
ROWS += [[100] * 8, [1] * 8, [1, 100] * 4, [100, 1] * 4, list(range(1, 9)), list(range(8, 0, -1))]


def expected_time(cells, a, j):
    """Each cell on the way is resisted once on every step from it on."""
    return sum(cells[k] * (abs(j - k) + 1) for k in range(min(a, j), max(a, j) + 1))


def times_of(cells):
    row = range(len(cells))
    asked = ask_behind([start(cells)], [time(a, j) for a in row for j in row])
    return [[asked[a * len(cells) + j][0] for j in row] for a in row]


def shown_by_set(cells):
    """For each set of inlets but the empty one: when each cell is wet, from whom, and last."""
    n = len(cells)
    questions = [wet(j) for j in range(n)] + [whom(j) for j in range(n)] + [last()]
    shown = {}
    for bits in range(1, 1 << n):
        asked = ask_behind([start(cells), inlets(bits)], questions)
        shown[bits] = ([one[0] for one in asked[:n]], [one[0] for one in asked[n:2 * n]], asked[2 * n])
    return shown


class FrontsGoOn(unittest.TestCase):
    def test_a_front_is_at_a_further_cell_later(self):
        for cells in ROWS:
            times = times_of(cells)
            for a in range(len(cells)):
                with self.subTest(cells, a=a):
                    rightward = times[a][a:]
                    leftward = times[a][a::-1]
                    self.assertEqual(rightward, sorted(set(rightward)))
                    self.assertEqual(leftward, sorted(set(leftward)))

    def test_a_front_takes_what_the_way_resists(self):
        for cells in ROWS:
            row = range(len(cells))
            with self.subTest(cells):
                self.assertEqual(times_of(cells), [[expected_time(cells, a, j) for j in row] for a in row])


class InletsWet(unittest.TestCase):
    @classmethod
    def setUpClass(cls):
        cls.shown = [(cells, times_of(cells), shown_by_set(cells)) for cells in ROWS]

    def test_no_inlet_wets_a_cell_sooner_than_the_one_told(self):
        for cells, times, shown in self.shown:
            with self.subTest(cells):
                for bits, (minutes, inlet, latest) in shown.items():
                    for j in range(len(cells)):
                        self.assertIn(inlet[j], inlets_of(bits))
                        self.assertEqual(times[inlet[j]][j], minutes[j])
                        for other in inlets_of(bits):
                            self.assertLessEqual(minutes[j], times[other][j])

    def test_of_like_inlets_the_lesser_number_is_told(self):
        for cells, times, shown in self.shown:
            with self.subTest(cells):
                for bits, (minutes, inlet, latest) in shown.items():
                    for j in range(len(cells)):
                        like = [a for a in inlets_of(bits) if times[a][j] == minutes[j]]
                        self.assertEqual(inlet[j], like[0])

    def test_each_inlet_wets_one_stretch(self):
        for cells, times, shown in self.shown:
            with self.subTest(cells):
                for bits, (minutes, inlet, latest) in shown.items():
                    stretches = [a for a, same in itertools.groupby(inlet)]
                    self.assertEqual(stretches, inlets_of(bits))

    def test_one_inlet_more_is_never_later(self):
        for cells, times, shown in self.shown:
            with self.subTest(cells):
                for bits, more in itertools.product(shown, range(len(cells))):
                    with_more = shown[bits | (1 << more)]
                    for j in range(len(cells)):
                        self.assertLessEqual(with_more[0][j], shown[bits][0][j])
                    self.assertLessEqual(with_more[2][0], shown[bits][2][0])

    def test_last_is_the_first_of_the_latest_cells(self):
        for cells, times, shown in self.shown:
            with self.subTest(cells):
                for minutes, inlet, latest in shown.values():
                    self.assertEqual(latest, [max(minutes), minutes.index(max(minutes))])


class AirAgrees(unittest.TestCase):
    def test_air_is_where_whom_changes_and_no_vent_is(self):
        for cells in mixed_rows(7, 24):
            n = len(cells)
            for bits in range(1 << n):
                vent_bits = (bits * 37 + n) % (1 << n)
                asked = ask_behind([start(cells), inlets(bits), vents(vent_bits)],
                                   [air()] + [whom(j) for j in range(n)])
                from_whom = [one[0] for one in asked[1:]]
                places = [j for j in range(n - 1)
                          if from_whom[j] != from_whom[j + 1] and not vent_bits & (3 << j)]
                with self.subTest(cells, bits=bits, vent_bits=vent_bits):
                    self.assertEqual(asked[0], [len(places)] + places)


def good_and_last_by_set(before, how_many):
    """For each set of inlets but the empty one: whether it's good at warmth 50, and when all is wet."""
    every = range(1, 1 << how_many)
    calls = line_of([[inlets(bits), good(50), last()] for bits in every])
    # each chunk of 3 calls tells its own inlets, so lists may be cut between these
    asked = []
    for at in range(0, len(calls), 180):
        asked += ask_behind(before, calls[at:at + 180])
    return {bits: (asked[3 * k + 1][0], asked[3 * k + 2][0]) for k, bits in enumerate(every)}


def mixed_beds(seed, how_many_beds):
    """Cells, vents and a table at whose warmth 50 it's at times good by some set, at times by none."""
    numbers = numbers_from(seed)
    for k, cells in enumerate(mixed_rows(seed, how_many_beds)):
        least = max(cells)
        around = [least + next(numbers) % (3 * sum(cells)) for row in range(2)]
        told = table([40, 60], [around[0], around[1]]) if k % 2 else table([50], [least + k % 5 * least // 2])
        vent_bits = (next(numbers) | next(numbers)) % (1 << len(cells))
        yield [start(cells), vents(vent_bits), told], len(cells)


class FewerInlets(unittest.TestCase):
    @classmethod
    def setUpClass(cls):
        cls.shown = []
        for before, how_many in mixed_beds(113, 160):
            asked = ask_behind(before, [fewest(50)] + [soonest(k) for k in range(1, how_many + 1)])
            cls.shown.append((before, asked[0], asked[1:], good_and_last_by_set(before, how_many)))

    def test_by_fewer_inlets_it_is_not_good(self):
        for before, few, soon, by_set in self.shown:
            if few != [-33]:
                with self.subTest(before):
                    fewer = [bits for bits in by_set if len(inlets_of(bits)) < few[0]]
                    self.assertEqual([bits for bits in fewer if by_set[bits][0] == 1], [])

    def test_by_those_told_it_is_good_and_of_like_ones_they_are_the_least(self):
        for before, few, soon, by_set in self.shown:
            if few != [-33]:
                with self.subTest(before):
                    like = [bits for bits in by_set if len(inlets_of(bits)) == few[0] and by_set[bits][0] == 1]
                    self.assertEqual(few[1], min(like))

    def test_refused_it_is_good_by_none(self):
        for before, few, soon, by_set in self.shown:
            with self.subTest(before):
                self.assertEqual(few == [-33], all(one[0] == 0 for one in by_set.values()))

    def test_with_so_many_all_is_wet_no_sooner(self):
        for before, few, soon, by_set in self.shown:
            for k, (minutes, told) in enumerate(soon, 1):
                with self.subTest(before, k=k):
                    like = {bits: one[1] for bits, one in by_set.items() if len(inlets_of(bits)) == k}
                    self.assertEqual(min(like.values()), minutes)
                    self.assertEqual(told, min(bits for bits in like if like[bits] == minutes))

    def test_one_inlet_more_is_never_later(self):
        for before, few, soon, by_set in self.shown:
            minutes = [answer[0] for answer in soon]
            self.assertEqual(minutes, sorted(minutes, reverse=True))

    def test_the_beds_are_unlike_enough(self):
        answered = {few[0] for before, few, soon, by_set in self.shown}
        self.assertLessEqual({-33, 1, 2, 3, 4}, answered)


class Hardener(unittest.TestCase):
    def assert_hardener(self, parts, x, upto):
        """From the least to the greatest mixed answers 1, at all other amounts up to one it answers 0."""
        before = [start([5]), ratio(*parts)]
        answer = ask_behind(before, [hard(x)])[0]
        asked = ask_many_behind(before, [mixed(x, y) for y in range(upto + 1)])
        will_do = [y for y in range(upto + 1) if asked[y] == [1]]
        with self.subTest(parts, x=x):
            if answer == [-33]:
                self.assertEqual(will_do, [])
            else:
                self.assertEqual(len(answer), 2)
                self.assertLessEqual(answer[0], answer[1])
                self.assertLess(answer[1], upto)
                self.assertEqual(will_do, list(range(answer[0], answer[1] + 1)))
        return answer

    def test_from_the_least_to_the_most_and_no_other(self):
        parts = itertools.product((1, 2, 3, 7), (1, 3, 4, 10), (0, 1, 20, 333, 500))
        refused = set()
        for p, q, near in parts:
            for x in (1, 2, 3, 5, 8, 21, 40):
                refused.add(self.assert_hardener((p, q, near), x, 2 * x * q // p + 3)[0] == -33)
        self.assertEqual(refused, {True, False})

    def test_over_mixed_ratios(self):
        numbers = numbers_from(4)
        for k in range(150):
            p = 1 + next(numbers) % 1000
            q = 1 + next(numbers) % (p if k % 3 else 1000)
            x = 1 + next(numbers) % 200
            # more than 10,000 can't be asked of mixed
            if 2 * x * q // p + 3 <= 2000:
                self.assert_hardener((p, q, next(numbers) % 501), x, 2 * x * q // p + 3)

    def test_great_amounts(self):
        for p, q, near, x in ((1, 1000, 0, 9), (1, 998, 1, 10), (1, 60, 5, 110), (3, 1000, 250, 20)):
            before = [start([5]), ratio(p, q, near)]
            least, greatest = ask_behind(before, [hard(x)])[0]
            around = [y for end in (least, greatest) for y in range(end - 3, end + 4)]
            asked = ask_behind(before, [mixed(x, y) for y in around])
            self.assertEqual([answer[0] for answer in asked], [1 if least <= y <= greatest else 0 for y in around])


if __name__ == "__main__":
    unittest.main()
