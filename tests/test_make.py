"""Promise 1: make."""

import unittest

from tests.support import HIGHEST, LARGEST, LOWEST, ask, at, make, near, nails, piece, some_table


def verdict(places, heights, breadths):
    return ask(make(places, heights, breadths))[0]


def rows(stations, levels):
    return list(range(stations)), list(range(levels)), [7] * (stations * levels)


class Kinds(unittest.TestCase):
    def test_a_table(self):
        self.assertEqual(verdict([0, 4, 9], [-3, 5], [1, 2, 3, 4, 5, 6]), [0, 0, 0])

    def test_every_count_of_stations_and_levels(self):
        for stations in range(0, 28):
            for levels in range(0, 20):
                asked = [0, 0, 0]
                if not 2 <= stations <= 24:
                    asked = [0, 2, 0]
                elif not 2 <= levels <= 16:
                    asked = [0, 2, 1]
                self.assertEqual(verdict(*rows(stations, levels)), asked, (stations, levels))

    def test_largest_lists(self):
        self.assertEqual(verdict([0] * 300, [0] * 300, [0] * 5000), [0, 2, 0])
        self.assertEqual(verdict([0, 1], [0] * 300, [0] * 5000), [0, 2, 1])
        self.assertEqual(verdict([0, 1], [0, 1], [0] * 5000), [0, 1, 5000])

    def test_empty_lists(self):
        self.assertEqual(verdict([], [], []), [0, 2, 0])
        self.assertEqual(verdict([0, 1], [], []), [0, 2, 1])
        self.assertEqual(verdict([0, 1], [0, 1], []), [0, 1, 0])

    def test_count_of_breadths(self):
        for many in range(0, 12):
            asked = [0, 0, 0] if many == 6 else [0, 1, many]
            self.assertEqual(verdict([0, 1, 2], [0, 1], [1] * many), asked)

    def test_places_bounds(self):
        self.assertEqual(verdict([0, LARGEST], [0, 1], [0] * 4), [0, 0, 0])
        self.assertEqual(verdict([LARGEST - 1, LARGEST], [0, 1], [0] * 4), [0, 0, 0])
        self.assertEqual(verdict([-1, 1], [0, 1], [0] * 4), [0, 3, 0])
        self.assertEqual(verdict([0, LARGEST + 1], [0, 1], [0] * 4), [0, 3, 1])
        self.assertEqual(verdict([LARGEST + 1, LARGEST + 2], [0, 1], [0] * 4), [0, 3, 0])
        self.assertEqual(verdict([LOWEST, HIGHEST], [0, 1], [0] * 4), [0, 3, 0])
        self.assertEqual(verdict([0, HIGHEST], [0, 1], [0] * 4), [0, 3, 1])

    def test_places_rise(self):
        self.assertEqual(verdict([0, 0], [0, 1], [0] * 4), [0, 3, 1])
        self.assertEqual(verdict([5, 4], [0, 1], [0] * 4), [0, 3, 1])
        self.assertEqual(verdict([0, 1, 5, 5, 3], [0, 1], [0] * 10), [0, 3, 3])
        self.assertEqual(verdict([0, 1, 5, 4, 4], [0, 1], [0] * 10), [0, 3, 3])
        self.assertEqual(verdict([0, 1, 5, 6, -1], [0, 1], [0] * 10), [0, 3, 4])

    def test_heights_bounds(self):
        self.assertEqual(verdict([0, 1], [-LARGEST, LARGEST], [0] * 4), [0, 0, 0])
        self.assertEqual(verdict([0, 1], [-LARGEST - 1, 0], [0] * 4), [0, 4, 0])
        self.assertEqual(verdict([0, 1], [0, LARGEST + 1], [0] * 4), [0, 4, 1])
        self.assertEqual(verdict([0, 1], [LOWEST, HIGHEST], [0] * 4), [0, 4, 0])
        self.assertEqual(verdict([0, 1], [0, HIGHEST], [0] * 4), [0, 4, 1])

    def test_heights_rise(self):
        self.assertEqual(verdict([0, 1], [-5, -5], [0] * 4), [0, 4, 1])
        self.assertEqual(verdict([0, 1], [-5, -6], [0] * 4), [0, 4, 1])
        self.assertEqual(verdict([0, 1], [-5, -4, 3, 2, 1], [0] * 10), [0, 4, 3])

    def test_breadths_bounds(self):
        self.assertEqual(verdict([0, 1], [0, 1], [0, LARGEST, LARGEST, 0]), [0, 0, 0])
        self.assertEqual(verdict([0, 1], [0, 1], [0, -1, LARGEST, 0]), [0, 5, 1])
        self.assertEqual(verdict([0, 1], [0, 1], [0, 1, LARGEST + 1, -1]), [0, 5, 2])
        self.assertEqual(verdict([0, 1], [0, 1], [LOWEST, HIGHEST, 0, 0]), [0, 5, 0])
        self.assertEqual(verdict([0, 1], [0, 1], [0, 0, 0, HIGHEST]), [0, 5, 3])

    def test_of_several_the_first(self):
        faulty_places = [0, 7, 7]
        faulty_heights = [3, 3]
        faulty_breadths = [-1] * 6
        self.assertEqual(verdict([1], [1], [1]), [0, 2, 0])
        self.assertEqual(verdict(faulty_places, [1], [1]), [0, 2, 1])
        self.assertEqual(verdict(faulty_places, faulty_heights, [-1] * 5), [0, 1, 5])
        self.assertEqual(verdict(faulty_places, faulty_heights, faulty_breadths), [0, 3, 2])
        self.assertEqual(verdict([0, 7, 8], faulty_heights, faulty_breadths), [0, 4, 1])
        self.assertEqual(verdict([0, 7, 8], [3, 4], faulty_breadths), [0, 5, 0])


class TheObject(unittest.TestCase):
    table = ([0, 10, 30], [-4, 4], [1, 2, 3, 4, 5, 6])
    faulty = (
        ([0], [0, 1], [9, 9]),
        ([0, 1], [0], [9, 9]),
        ([0, 1], [0, 1], [9, 9, 9]),
        ([0, 0], [0, 1], [9, 9, 9, 9]),
        ([0, 1], [1, 1], [9, 9, 9, 9]),
        ([0, 1], [0, 1], [9, 9, 9, -9]),
    )

    def test_a_make_that_fails_leaves_none(self):
        for faulty in self.faulty:
            told = ask(make(*faulty), at(0, 0, 0, 1, 0), near(0, 0, 0), piece(0, 0, 0))
            self.assertNotEqual(told[0][1], 0)
            self.assertEqual(told[1:], [[-5], [-5], [-5]])

    def test_a_make_that_fails_leaves_the_old_one(self):
        questions = [at(0, 1, 21, 2, 0), near(0, 0, 30), piece(1, 2, 0), near(0, 0, 31)]
        before = ask(make(*self.table), *questions)
        for faulty in self.faulty:
            after = ask(make(*self.table), make(*faulty), *questions)
            self.assertEqual(after[2:], before[1:])

    def test_a_table_over_another(self):
        others = [some_table(9, 24, 16, 500), some_table(8, 2, 2, 500), some_table(7, 5, 3, 50)]
        calls = []
        asked = []
        for table in others + others[:1]:
            calls.append(make(*table))
            asked.append([0, 0, 0])
            for way in (0, 1):
                xs, ys = nails(table, way, 1)
                calls.extend(near(way, 1, x) for x in xs)
                asked.extend([0, y] for y in ys)
                calls.append(near(way, 1, xs[-1] + 1))
                asked.append([-4])
        self.assertEqual(ask(*calls), asked)


if __name__ == "__main__":
    unittest.main()
