"""Promise 7: top."""

import unittest
from fractions import Fraction
from math import ceil

from tests.crests import top_of
from tests.support import (
    LARGEST, ask, at, batten_by_definition, lines_by_definition, make, nails, nails_bent, noise, of_line, one_line,
    piece, quotients, some_table, told, top,
)

SIZES = ((2, 2), (2, 16), (24, 2), (3, 3), (4, 5), (6, 7), (10, 9), (14, 16))


def turned_round(xs, ys):
    return [xs[-1] - x for x in xs[::-1]], ys[::-1]


class AtANail(unittest.TestCase):
    def test_at_an_end(self):
        self.assertEqual(of_line([0, 7], [3, 9])[2], [0, 9])
        self.assertEqual(of_line([0, 7], [9, 3])[2], [0, 9])
        self.assertEqual(of_line([0, 1, 2, 3], [9, 4, 1, 0])[2], [0, 9])
        self.assertEqual(of_line([0, 1, 2, 3], [0, 1, 4, 9])[2], [0, 9])

    def test_at_an_inner_nail(self):
        for y in (1, 2, 19, 20, LARGEST):
            self.assertEqual(of_line([0, 1, 2], [0, y, 0])[2], [0, y])
            self.assertEqual(of_line([0, 4, 8, 12, 16], [0, 0, y, 0, 0])[2], [0, y])

    def test_a_crest_below_another_nail(self):
        self.assertEqual(of_line([0, 1, 2, 3, 30], [0, 20, 20, 0, 500])[2], [0, 500])
        self.assertEqual(of_line([0, 27, 28, 29, 30], [500, 0, 20, 20, 0])[2], [0, 500])

    def test_a_trough_is_no_top(self):
        self.assertEqual(of_line([0, 1, 2, 3], [20, 0, 0, 20])[2], [0, 20])
        self.assertEqual(of_line([0, 4, 8], [0, 0, 48])[2], [0, 48])
        self.assertEqual(of_line([0, 1, 3, 4], [5, 0, 0, 6])[2], [0, 6])

    def test_the_slope_is_nought_where_it_rises_on(self):
        # The bends 0 -6 6 0: at half its way the middle cubic lies level for a moment, and has no crest.
        xs = [0, 1, 3, 4]
        ys = nails_bent(xs, [0, -1, 1, 0], 5)
        self.assertEqual(ys, [0, 5, 7, 12])
        self.assertEqual(ask(one_line(xs, ys), at(0, 0, 2, 1, 1), at(0, 0, 2, 1, 2))[1:], [[0, 0, 1], [0, 0, 1]])
        self.assertEqual(of_line(xs, ys)[2], [0, 12])
        self.assertEqual(of_line(xs, [12 - y for y in ys])[2], [0, 12])


class Even(unittest.TestCase):
    """Four nails alike from both ends: the middle cubic has no t^3."""

    def test_there_is_no_cube(self):
        self.assertEqual(ask(one_line([0, 1, 2, 3], [0, 1, 1, 0]), piece(0, 0, 1))[1][-2:], [0, 1])

    def test_around_whole_numbers(self):
        # The crest is 23 / 20 of y.
        for y in range(0, 61):
            self.assertEqual(of_line([0, 1, 2, 3], [0, y, y, 0])[2], [0, ceil(Fraction(23 * y, 20))])
        self.assertEqual(of_line([0, 1, 2, 3], [0, 20, 20, 0])[2], [0, 23])
        self.assertEqual(of_line([0, 1, 2, 3], [7, 27, 27, 7])[2], [0, 30])
        self.assertEqual(of_line([0, 1, 2, 3], [0, LARGEST, LARGEST, 0])[2], [0, 1205862])

    def check(self, a, b, y, above, below):
        """The crest is above / below higher than y."""
        xs = [0, a, a + b, 2 * a + b]
        ys = [0, y, y, 0]
        asked = [told(y + Fraction(above, below)), [0, y + ceil(Fraction(above, below))]]
        self.assertEqual(ask(one_line(xs, ys), at(0, 0, xs[-1], 2, 0), top(0, 0))[1:], asked)

    def test_a_little_above_a_whole_number(self):
        self.check(596, 1199, 421595, 159259 * 11416976 + 1, 11416976)

    def test_a_little_below_a_whole_number(self):
        self.check(598, 1199, 566461, 213089 * 11464856 - 1, 11464856)


    def test_a_crest_that_the_cubic_would_have_farther_on(self):
        # The middle cubic's parabola has its crest before nail 1 or behind nail 2: the batten never comes there.
        xs = [0, 1, 2, 3]
        for slope in (-7, -10, -100, -1000):
            ys = nails_bent(xs, [0, -1, -1, 0], slope)
            self.assertEqual(of_line(xs, ys)[2], [0, ys[0]])
            self.assertEqual(of_line(*turned_round(xs, ys))[2], [0, ys[0]])

    def test_a_crest_that_the_cubic_would_have_a_little_farther_on(self):
        # The slope is 100 at nail 2, and then the line bends down harder than the parabola before.
        xs = [0, 1, 2, 3, 4]
        ys = nails_bent(xs, [0, -100, -100, -900, 0], 900)
        self.assertEqual(ask(one_line(xs, ys), piece(0, 0, 1))[1], [0, ys[1], 1, 700, 1, -300, 1, 0, 1])
        self.assertEqual(of_line(xs, ys)[2], [0, ys[2] + 7])
        self.assertEqual(of_line(*turned_round(xs, ys))[2], [0, ys[2] + 7])


class AtAQuotient(unittest.TestCase):
    """Crests between two nails, of cubics with a t^3, at a place that is a quotient."""

    def check(self, xs, ys, i, t, crest):
        place = xs[i] + Fraction(t)
        crest = Fraction(crest)
        there = [at(0, 0, place.numerator, place.denominator, what) for what in (0, 1)]
        asked = [told(crest), [0, 0, 1], [0, ceil(crest)]]
        self.assertEqual(ask(one_line(xs, ys), *there, top(0, 0))[1:], asked)
        self.assertEqual(of_line(*turned_round(xs, ys))[2], [0, ceil(crest)])
        self.assertEqual(of_line(xs, [y + 100 for y in ys])[2], [0, 100 + ceil(crest)])

    def test_whole(self):
        self.check([0, 6, 7], [2, 11, 2], 0, 4, 18)
        self.check([0, 1, 9], [0, 5, 9], 1, 4, 13)
        self.check([0, 1, 3, 4], [13, 16, 14, 1], 1, 1, 18)
        self.check([0, 1, 3, 5], [3, 16, 18, 12], 1, 1, 20)
        self.check([0, 1, 9, 10], [22, 12, 56, 7], 1, 6, 93)
        self.check([0, 1, 4, 6], [40, 38, 38, 4], 1, 2, 42)
        self.check([0, 1, 2], [90, 99, 0], 0, "2/3", 106)

    def test_not_whole(self):
        self.check([0, 6, 7], [0, 1, 0], 0, 4, "16/9")
        self.check([0, 1, 7], [2, 5, 2], 1, 2, "22/3")
        self.check([0, 1, 2, 3, 4], [1, 4, 4, 4, 1], 1, "1/3", "88/21")
        self.check([0, 1, 3, 4], [6, 6, 5, 0], 1, 1, "103/16")
        self.check([0, 1, 7, 9], [17, 5, 23, 6], 1, "39/7", "217933/9212")


class AtNoQuotient(unittest.TestCase):
    """Crests between two nails at a place that is no quotient."""

    def check(self, xs, ys, asked):
        self.assertEqual(top_of(xs, ys, batten_by_definition(xs, ys)), asked)
        self.assertEqual(of_line(xs, ys)[2], [0, asked])
        self.assertEqual(of_line(*turned_round(xs, ys))[2], [0, asked])

    def test_by_hand(self):
        # The first cubic is y + 13/4 y t - 5/4 y t^3: its crest is y and the root of 2197/540 y^2.
        for y, asked in ((1, 4), (10, 31), (58, 175), (59, 179), (100, 302), (1000, 3018), (300000, 905118)):
            n = asked - y
            self.assertTrue((n - 1) ** 2 * 540 < 2197 * y ** 2 <= n ** 2 * 540, y)
            self.check([0, 1, 2], [y, 3 * y, 0], asked)

    def test_a_little_above_a_whole_number(self):
        self.check([0, 1293, 2827], [586331, 711535, 0], 734718)

    def test_a_little_above_a_nail(self):
        self.check([0, 331, 1040], [605014, 773629, 0], 773630)

    def test_a_little_below_a_whole_number(self):
        self.check([0, 779, 1247], [678139, 713626, 0], 846170)


class Flat(unittest.TestCase):
    def test_straight_lines(self):
        for xs in ([0, 1], [0, LARGEST], [0, 1, 2], [0, 1, 5, 7, 30], list(range(24)), [0, 1, LARGEST]):
            for ys in ([xs[-1] - x for x in xs], [x for x in xs]):
                self.assertEqual(of_line(xs, ys)[2], [0, xs[-1]])
            for y in (0, 1, LARGEST):
                self.assertEqual(of_line(xs, [y for x in xs])[2], [0, y])

    def test_half_breadths_all_nought(self):
        table = make(list(range(24)), list(range(16)), [0] * 384)
        lines = [top(0, k) for k in range(16)] + [top(1, k) for k in range(24)]
        self.assertEqual(ask(table, *lines)[1:], [[0, 0]] * 40)

    def test_a_level_cubic_between_humps(self):
        # The bends 0 -6 0 0 -6 0: from nail 2 to nail 3 the line is straight and level.
        xs = [0, 1, 2, 3, 4, 5]
        ys = nails_bent(xs, [0, -1, 0, 0, -1, 0], 5)
        self.assertEqual(ys, [0, 5, 6, 6, 5, 0])
        self.assertEqual(of_line(xs, ys)[2], [0, 6])


class ByDefinition(unittest.TestCase):
    def check_tables(self, seed, size):
        for table, way, k, xs, ys, cubics in lines_by_definition(seed, SIZES, size):
            self.assertEqual(ask(make(*table), top(way, k))[1], [0, top_of(xs, ys, cubics)], (xs, ys))

    def test_small_measures(self):
        self.check_tables(400, 30)

    def test_large_measures(self):
        self.check_tables(500, LARGEST)

    def check_by_pieces(self, table, way, k):
        xs, ys = nails(table, way, k)
        answers = ask(make(*table), top(way, k), *[piece(way, k, i) for i in range(len(xs) - 1)])[1:]
        asked = top_of(xs, ys, [quotients(answer) for answer in answers[1:]])
        self.assertEqual(answers[0], [0, asked], (xs, ys))

    def test_every_line_of_tables(self):
        for seed, size in ((1, 24), (2, 100), (3, 5000), (4, LARGEST)):
            table = some_table(seed, 24, 16, size)
            for way in (0, 1):
                for k in range(len(table[1 - way])):
                    self.check_by_pieces(table, way, k)

    def test_many_short_lines(self):
        for seed in range(300):
            table = some_table(seed + 1000, 3 + seed % 4, 16, 12)
            for k in range(0, 16, 3):
                self.check_by_pieces(table, 0, k)

    def test_bends_that_are_alike_or_nought(self):
        chance = noise(77)
        for many in range(300):
            xs = list(range(4 + many % 3))
            sixths = [0] + [(next(chance) % 5 - 2) * 9 for x in xs[2:]] + [0]
            ys = nails_bent(xs, sixths, next(chance) % 400 - 200)
            self.check_by_pieces((xs, [0, 1], ys + [0] * len(xs)), 0, 0)

    def test_measures_at_their_bounds(self):
        places = list(range(12)) + list(range(LARGEST - 11, LARGEST + 1))
        heights = [-LARGEST] + list(range(-7, 7)) + [LARGEST]
        breadths = [LARGEST * ((s + level) % 2) for level in range(16) for s in range(24)]
        for way, k in ((0, 0), (0, 15), (1, 0), (1, 23)):
            self.check_by_pieces((places, heights, breadths), way, k)


class AlongTheLine(unittest.TestCase):
    def test_it_exceeds_the_top_nowhere_and_all_below_somewhere(self):
        xs = [0, 5, 9, 20]
        places = [at(0, 0, p, 49, 0) for p in range(20 * 49 + 1)]
        for ys in ([0, 40, 41, 0], [30, 40, 10, 60], [90, 0, 90, 0], [0, 0, 1, 1], [1, 0, 0, 0]):
            answers = ask(one_line(xs, ys), top(0, 0), *places)[1:]
            highest = max(quotients(answer)[0] for answer in answers[1:])
            self.assertEqual(answers[0], [0, ceil(highest)])


if __name__ == "__main__":
    unittest.main()
