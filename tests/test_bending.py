"""Promise 5: bending."""

import unittest
from fractions import Fraction

from tests.support import (
    LARGEST, ask, batten_by_definition, bending, lines_by_definition, make, nails_bent, of_line, one_line, piece,
    quotients, some_table, told,
)

SIZES = ((2, 2), (2, 16), (24, 2), (3, 3), (3, 4), (5, 7), (10, 6), (12, 16))


def bending_of(xs, cubics):
    """The integral of (2 C + 6 D t)^2, cubic by cubic."""
    found = Fraction(0)
    for i, (a, b, c, d) in enumerate(cubics):
        h = xs[i + 1] - xs[i]
        found += 4 * c ** 2 * h + 12 * c * d * h ** 2 + 12 * d ** 2 * h ** 3
    return found


class ByHand(unittest.TestCase):
    def test_a_hump(self):
        # From 0 to 1 the bend is -3 t, and back: twice 9 / 3.
        self.assertEqual(of_line([0, 1, 2], [0, 1, 0])[0], [0, 6, 1])

    def test_lowest_terms(self):
        # The bend is -6/5 t, then -6/5, then back: 36/25 (1/3 + 1 + 1/3).
        self.assertEqual(of_line([0, 1, 2, 3], [0, 1, 1, 0])[0], [0, 12, 5])
        self.assertEqual(of_line([0, 1, 2, 3], [0, 5, 5, 0])[0], [0, 60, 1])
        self.assertEqual(of_line([0, 10, 20, 30], [0, 1, 1, 0])[0], [0, 3, 1250])

    def test_bends_of_two_signs(self):
        # The bends 0 6 -12 0: each cubic's are integrated by themselves, not their sum.
        line = nails_bent([0, 1, 2, 3], [0, 1, -2, 0])
        self.assertEqual(of_line([0, 1, 2, 3], line)[0], [0, 12 + 36 + 48, 1])

    def test_moved_or_turned_round(self):
        xs = [0, 3, 4, 9]
        ys = [5, 0, 8, 1]
        asked = of_line(xs, ys)[0]
        self.assertEqual(of_line([x + 1000 for x in xs], [y + 77 for y in ys])[0], asked)
        self.assertEqual(of_line([9 - x for x in xs[::-1]], ys[::-1])[0], asked)
        self.assertEqual(of_line(xs, [8 - y for y in ys])[0], asked)


class Straight(unittest.TestCase):
    def test_two_nails(self):
        for xs, ys in (([0, 1], [0, 0]), ([3, 9], [7, 2]), ([0, LARGEST], [0, LARGEST]), ([0, 1], [LARGEST, 0])):
            self.assertEqual(of_line(xs, ys)[0], [0, 0, 1])

    def test_nails_in_a_row(self):
        for xs in ([0, 1, 2], [0, 1, 5, 7, 30], list(range(0, 48, 2)), [0, 1, LARGEST]):
            for ys in ([0 for x in xs], [xs[-1] - x for x in xs], [x for x in xs], [LARGEST for x in xs]):
                self.assertEqual(of_line(xs, ys)[0], [0, 0, 1])

    def test_half_breadths_all_nought(self):
        table = make(list(range(24)), list(range(16)), [0] * 384)
        lines = [bending(0, k) for k in range(16)] + [bending(1, k) for k in range(24)]
        self.assertEqual(ask(table, *lines)[1:], [[0, 0, 1]] * 40)


class ByDefinition(unittest.TestCase):
    def check_tables(self, seed, size):
        for table, way, k, xs, ys, cubics in lines_by_definition(seed, SIZES, size):
            self.assertEqual(ask(make(*table), bending(way, k))[1], told(bending_of(xs, cubics)), (xs, ys))

    def test_small_measures(self):
        self.check_tables(100, 60)

    def test_large_measures(self):
        self.check_tables(200, LARGEST)

    def test_every_line_of_a_large_table(self):
        table = some_table(9, 24, 16, LARGEST)
        for way in (0, 1):
            xs = table[way]
            for k in range(len(table[1 - way])):
                calls = [piece(way, k, i) for i in range(len(xs) - 1)]
                answers = ask(make(*table), bending(way, k), *calls)[1:]
                asked = bending_of(xs, [quotients(answer) for answer in answers[1:]])
                self.assertEqual(answers[0], told(asked))

    def test_measures_at_their_bounds(self):
        xs = list(range(12)) + list(range(LARGEST - 11, LARGEST + 1))
        ys = [LARGEST * (i % 2) for i in range(24)]
        answers = ask(one_line(xs, ys), bending(0, 0), *[piece(0, 0, i) for i in range(23)])[1:]
        self.assertEqual(answers[0], told(bending_of(xs, [quotients(answer) for answer in answers[1:]])))
        self.assertEqual(of_line([0, 1, LARGEST], [LARGEST, 0, LARGEST])[0], told(bending_of(
            [0, 1, LARGEST], batten_by_definition([0, 1, LARGEST], [LARGEST, 0, LARGEST]))))


class BendsLeast(unittest.TestCase):
    def test_no_batten_with_another_nail_between_bends_less(self):
        # A batten that is held away from its place by one nail more is a curve through the same nails.
        xs = [0, 4, 10, 14]
        ys = [3, 9, 8, 20]
        least = quotients(of_line(xs, ys)[0])[0]
        for y in range(0, 21):
            self.assertGreaterEqual(quotients(of_line([0, 4, 7, 10, 14], [3, 9, y, 8, 20])[0])[0], least)


if __name__ == "__main__":
    unittest.main()
