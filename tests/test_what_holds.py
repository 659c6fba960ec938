"""What holds, a: over many rows of cells, and every set of inlets in them."""

import itertools
import unittest

from tests.lines import air, ask_behind, inlets, last, mixed_rows, start, time, vents, wet, whom

ROWS = [list(cells) for n in range(1, 5) for cells in itertools.product((1, 2, 100), repeat=n)]
ROWS += mixed_rows(59, 48)
ROWS += [[100] * 8, [1] * 8, [1, 100] * 4, [100, 1] * 4, list(range(1, 9)), list(range(8, 0, -1))]


def expected_time(cells, a, j):
    """Each cell on the way is resisted once on every step from it on."""
    return sum(cells[k] * (abs(j - k) + 1) for k in range(min(a, j), max(a, j) + 1))


def times_of(cells):
    row = range(len(cells))
    asked = ask_behind([start(cells)], [time(a, j) for a in row for j in row])
    return [[asked[a * len(cells) + j][0] for j in row] for a in row]


def shown_by_set(cells):
    """For each set of inlets but the empty one: when each cell is wet, from whom, and last."""
    n = len(cells)
    questions = [wet(j) for j in range(n)] + [whom(j) for j in range(n)] + [last()]
    shown = {}
    for bits in range(1, 1 << n):
        asked = ask_behind([start(cells), inlets(bits)], questions)
        shown[bits] = ([one[0] for one in asked[:n]], [one[0] for one in asked[n:2 * n]], asked[2 * n])
    return shown


def inlets_of(bits):
    return [j for j in range(8) if bits & (1 << j)]


class FrontsGoOn(unittest.TestCase):
    def test_a_front_is_at_a_further_cell_later(self):
        for cells in ROWS:
            times = times_of(cells)
            for a in range(len(cells)):
                with self.subTest(cells, a=a):
                    rightward = times[a][a:]
                    leftward = times[a][a::-1]
                    self.assertEqual(rightward, sorted(set(rightward)))
                    self.assertEqual(leftward, sorted(set(leftward)))

    def test_a_front_takes_what_the_way_resists(self):
        for cells in ROWS:
            row = range(len(cells))
            with self.subTest(cells):
                self.assertEqual(times_of(cells), [[expected_time(cells, a, j) for j in row] for a in row])


class InletsWet(unittest.TestCase):
    @classmethod
    def setUpClass(cls):
        cls.shown = [(cells, times_of(cells), shown_by_set(cells)) for cells in ROWS]

    def test_no_inlet_wets_a_cell_sooner_than_the_one_told(self):
        for cells, times, shown in self.shown:
            with self.subTest(cells):
                for bits, (minutes, inlet, latest) in shown.items():
                    for j in range(len(cells)):
                        self.assertIn(inlet[j], inlets_of(bits))
                        self.assertEqual(times[inlet[j]][j], minutes[j])
                        for other in inlets_of(bits):
                            self.assertLessEqual(minutes[j], times[other][j])

    def test_of_like_inlets_the_lesser_number_is_told(self):
        for cells, times, shown in self.shown:
            with self.subTest(cells):
                for bits, (minutes, inlet, latest) in shown.items():
                    for j in range(len(cells)):
                        like = [a for a in inlets_of(bits) if times[a][j] == minutes[j]]
                        self.assertEqual(inlet[j], like[0])

    def test_each_inlet_wets_one_stretch(self):
        for cells, times, shown in self.shown:
            with self.subTest(cells):
                for bits, (minutes, inlet, latest) in shown.items():
                    stretches = [a for a, same in itertools.groupby(inlet)]
                    self.assertEqual(stretches, inlets_of(bits))

    def test_one_inlet_more_is_never_later(self):
        for cells, times, shown in self.shown:
            with self.subTest(cells):
                for bits, more in itertools.product(shown, range(len(cells))):
                    with_more = shown[bits | (1 << more)]
                    for j in range(len(cells)):
                        self.assertLessEqual(with_more[0][j], shown[bits][0][j])
                    self.assertLessEqual(with_more[2][0], shown[bits][2][0])

    def test_last_is_the_first_of_the_latest_cells(self):
        for cells, times, shown in self.shown:
            with self.subTest(cells):
                for minutes, inlet, latest in shown.values():
                    self.assertEqual(latest, [max(minutes), minutes.index(max(minutes))])


class AirAgrees(unittest.TestCase):
    def test_air_is_where_whom_changes_and_no_vent_is(self):
        for cells in mixed_rows(7, 24):
            n = len(cells)
            for bits in range(1 << n):
                vent_bits = (bits * 37 + n) % (1 << n)
                asked = ask_behind([start(cells), inlets(bits), vents(vent_bits)],
                                   [air()] + [whom(j) for j in range(n)])
                from_whom = [one[0] for one in asked[1:]]
                places = [j for j in range(n - 1)
                          if from_whom[j] != from_whom[j + 1] and not vent_bits & (3 << j)]
                with self.subTest(cells, bits=bits, vent_bits=vent_bits):
                    self.assertEqual(asked[0], [len(places)] + places)


if __name__ == "__main__":
    unittest.main()
