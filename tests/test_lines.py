"""Promises 2, 3 and 4: at, near, piece, and what they refuse."""

import unittest
from fractions import Fraction

from tests.support import (
    HIGHEST, LARGEST, LOWEST, ask, at, batten_by_definition, make, near, nails, one_line, piece, quotients,
    some_lines, some_table, told, told_at,
)

SIZES = ((2, 2), (2, 16), (24, 2), (3, 3), (3, 4), (5, 7), (10, 6), (24, 16))


def sampled(xs):
    """Places on the line as p, q: at the nails, beside them and between them."""
    found = []
    for i, x in enumerate(xs):
        found.append((x, 1))
        found.append((x * 6, 6))
        if i + 1 < len(xs):
            found.append((x * 1048576 + 1, 1048576))
            found.append((xs[i + 1] * 1048576 - 1, 1048576))
            found.append((x * 3 + (xs[i + 1] - x), 3))
    return found


class ByHand(unittest.TestCase):
    def test_piece(self):
        hump = one_line([0, 1, 2], [0, 1, 0])
        self.assertEqual(ask(hump, piece(0, 0, 0))[1], [0, 0, 1, 3, 2, 0, 1, -1, 2])
        self.assertEqual(ask(hump, piece(0, 0, 1))[1], [0, 1, 1, 0, 1, -3, 2, 1, 2])

    def test_at(self):
        hump = one_line([0, 1, 2], [0, 1, 0])
        half = [at(0, 0, 1, 2, what) for what in (0, 1, 2)]
        self.assertEqual(ask(hump, *half)[1:], [[0, 11, 16], [0, 9, 8], [0, -3, 2]])
        nail = [at(0, 0, 1, 1, what) for what in (0, 1, 2)]
        self.assertEqual(ask(hump, *nail)[1:], [[0, 1, 1], [0, 0, 1], [0, -3, 1]])
        end = [at(0, 0, 2, 1, what) for what in (0, 1, 2)]
        self.assertEqual(ask(hump, *end)[1:], [[0, 0, 1], [0, -3, 2], [0, 0, 1]])

    def test_two_nails_lie_straight(self):
        line = one_line([10, 16], [7, 3])
        asked = [[0, 7, 1, -2, 3, 0, 1, 0, 1], [0, 5, 1], [0, -2, 3], [0, 0, 1], [0, 6], [-4]]
        calls = [piece(0, 0, 0), at(0, 0, 13, 1, 0), at(0, 0, 13, 1, 1), at(0, 0, 13, 1, 2), near(0, 0, 11)]
        self.assertEqual(ask(line, *calls, piece(0, 0, 1))[1:], asked)

    def test_nails_in_a_row_lie_straight(self):
        xs = [0, 1, 5, 7, 30]
        line = one_line(xs, [2 * x + 3 for x in xs])
        for i, x in enumerate(xs[:-1]):
            self.assertEqual(ask(line, piece(0, 0, i))[1], [0, 2 * x + 3, 1, 2, 1, 0, 1, 0, 1])

    def test_way_and_number(self):
        table = make([0, 2, 6], [-4, 4], [10, 20, 30, 40, 50, 60])
        self.assertEqual(ask(table, near(0, 0, 2), near(0, 1, 6))[1:], [[0, 20], [0, 60]])
        self.assertEqual(ask(table, near(1, 0, -4), near(1, 0, 4), near(1, 2, 0))[1:], [[0, 10], [0, 40], [0, 45]])


class ByDefinition(unittest.TestCase):
    """Each size's lines against the document's conditions, solved in another way."""

    def check_line(self, table, way, k):
        xs, ys = nails(table, way, k)
        cubics = batten_by_definition(xs, ys)
        pieces = ask(make(*table), *[piece(way, k, i) for i in range(len(xs) - 1)])[1:]
        self.assertEqual([quotients(answer) for answer in pieces], cubics)
        places = sampled(xs)
        for what in (0, 1, 2):
            answers = ask(make(*table), *[at(way, k, p, q, what) for p, q in places])[1:]
            for (p, q), answer in zip(places, answers):
                for value in told_at(xs, cubics, Fraction(p, q), what):
                    self.assertEqual(answer, told(value), (way, k, p, q, what))
        wholes = sorted({p // q for p, q in places})
        answers = ask(make(*table), *[near(way, k, x) for x in wholes])[1:]
        for x, answer in zip(wholes, answers):
            self.assertEqual(answer, [0, round(told_at(xs, cubics, x, 0)[0])])

    def check_table(self, table):
        for way, k in some_lines(table):
            self.check_line(table, way, k)

    def test_small_measures(self):
        for seed, (stations, levels) in enumerate(SIZES):
            self.check_table(some_table(seed, stations, levels, 60))

    def test_large_measures(self):
        for seed, (stations, levels) in enumerate(SIZES[:-1]):
            self.check_table(some_table(seed + 50, stations, levels, LARGEST))

    def test_measures_at_their_bounds(self):
        places = list(range(12)) + list(range(LARGEST - 11, LARGEST + 1))
        heights = [-LARGEST] + list(range(-7, 7)) + [LARGEST]
        breadths = [LARGEST * ((s + level) % 2) for level in range(16) for s in range(24)]
        table = (places, heights, breadths)
        self.check_line(table, 0, 15)
        self.check_line(table, 1, 23)


class TheConditions(unittest.TestCase):
    """The document's conditions asked of the pieces of the largest tables, line by line."""

    def test_every_line_of_large_tables(self):
        for seed in (3, 4):
            table = some_table(seed, 24, 16, LARGEST)
            for way in (0, 1):
                for k in range(len(table[1 - way])):
                    xs, ys = nails(table, way, k)
                    calls = [piece(way, k, i) for i in range(len(xs) - 1)]
                    self.check_conditions(xs, ys, [quotients(answer) for answer in ask(make(*table), *calls)[1:]])

    def check_conditions(self, xs, ys, cubics):
        self.assertEqual(told_at(xs, cubics, xs[0], 2), [0])
        self.assertEqual(told_at(xs, cubics, xs[-1], 2), [0])
        for x, y in zip(xs, ys):
            self.assertEqual(set(told_at(xs, cubics, x, 0)), {y})
            self.assertEqual(len(set(told_at(xs, cubics, x, 1))), 1)
            self.assertEqual(len(set(told_at(xs, cubics, x, 2))), 1)


class Nearest(unittest.TestCase):
    def test_of_two_as_near_the_even_one(self):
        for low in range(0, 6):
            line = one_line([0, 2], [low, low + 1])
            self.assertEqual(ask(line, near(0, 0, 1))[1], [0, low + low % 2])

    def test_not_as_near(self):
        for low in range(0, 4):
            line = one_line([0, 3], [low, low + 1])
            self.assertEqual(ask(line, near(0, 0, 1), near(0, 0, 2))[1:], [[0, low], [0, low + 1]])

    def test_below_nought(self):
        for last in (4, 10, 16, 22, 48):
            value = Fraction(-3 * last, 32)
            line = one_line([0, 2, 4], [0, 0, last])
            asked = [told(value), [0, round(value)]]
            self.assertEqual(ask(line, at(0, 0, 1, 1, 0), near(0, 0, 1))[1:], asked)

    def test_written_out_below_nought(self):
        self.assertEqual(ask(one_line([0, 2, 4], [0, 0, 16]), near(0, 0, 1))[1], [0, -2])
        self.assertEqual(ask(one_line([0, 2, 4], [0, 0, 48]), near(0, 0, 1))[1], [0, -4])


class Refusals(unittest.TestCase):
    table = make([5, 10, 30], [-4, 6], [1, 2, 3, 4, 5, 6])

    def refused(self, *calls):
        return [answer if answer[0] < 0 else answer[:1] for answer in ask(self.table, *calls)[1:]]

    def test_no_table(self):
        for wrong in (0, 2, -1, LOWEST, HIGHEST):
            calls = (at(wrong, wrong, wrong, wrong, wrong), near(wrong, wrong, wrong), piece(wrong, wrong, wrong))
            self.assertEqual(ask(*calls), [[-5], [-5], [-5]])

    def test_way(self):
        for way in (-1, 2, LOWEST, HIGHEST):
            self.assertEqual(self.refused(at(way, 0, 5, 1, 0), near(way, 0, 5), piece(way, 0, 0)), [[-1]] * 3)

    def test_way_comes_before_the_line(self):
        self.assertEqual(self.refused(at(2, 9, 99, 1, 0), near(2, 9, 99), piece(-1, 9, 9)), [[-1]] * 3)

    def test_q(self):
        for q in (0, -1, 1048577, LOWEST, HIGHEST):
            self.assertEqual(self.refused(at(0, 0, 5 * q, q, 0) if abs(q) < 2 ** 40 else at(0, 0, 5, q, 0)), [[-1]])
        self.assertEqual(self.refused(at(0, 0, 5, 1, 0), at(0, 0, 5 * 1048576, 1048576, 0)), [[0]] * 2)

    def test_what(self):
        for what in (-1, 3, LOWEST, HIGHEST):
            self.assertEqual(self.refused(at(0, 0, 5, 1, what)), [[-1]])
        self.assertEqual(self.refused(*[at(1, 0, 5, 1, what) for what in (0, 1, 2)]), [[0]] * 3)

    def test_q_and_what_come_before_line_and_place(self):
        self.assertEqual(self.refused(at(0, 9, 5, 0, 0), at(0, -1, 5, 1, 3), at(1, 3, 5, 1048577, 0)), [[-1]] * 3)
        self.assertEqual(self.refused(at(0, 0, 99, 0, 0), at(0, 0, 99, 1, 3), at(0, 0, HIGHEST, -1, 0)), [[-1]] * 3)

    def test_line(self):
        for way, lines in ((0, 2), (1, 3)):
            for k in (-1, -lines, lines, lines + 1, LOWEST, HIGHEST):
                self.assertEqual(self.refused(at(way, k, 5, 1, 0), near(way, k, 5), piece(way, k, 0)), [[-4]] * 3)
            for k in range(lines):
                self.assertEqual(self.refused(at(way, k, 5, 1, 0), near(way, k, 5), piece(way, k, 0)), [[0]] * 3)

    def test_place(self):
        for way, first, last in ((0, 5, 30), (1, -4, 6)):
            for q in (1, 2, 1048576):
                asked = [[-4], [0], [0], [-4]]
                places = (first * q - 1, first * q, last * q, last * q + 1)
                for what in (0, 1, 2):
                    self.assertEqual(self.refused(*[at(way, 1, p, q, what) for p in places]), asked)
            places = (LOWEST, first - 1, first, last, last + 1, HIGHEST)
            asked = [[-4], [-4], [0], [0], [-4], [-4]]
            self.assertEqual(self.refused(*[near(way, 1, x) for x in places]), asked)
            self.assertEqual(self.refused(at(way, 1, LOWEST, 1048576, 0), at(way, 1, HIGHEST, 1048576, 0)), [[-4]] * 2)

    def test_nail(self):
        for way, many in ((0, 3), (1, 2)):
            for i in (-1, -many, many - 1, many, LOWEST, HIGHEST):
                self.assertEqual(self.refused(piece(way, 0, i)), [[-4]])
            for i in range(many - 1):
                self.assertEqual(self.refused(piece(way, 0, i)), [[0]])

    def test_a_refusal_changes_nothing(self):
        good = [at(0, 0, 7, 1, 0), near(1, 2, 0), piece(0, 1, 1)]
        bad = [at(7, 0, 7, 1, 0), near(1, 9, 0), piece(0, 1, 2), at(0, 0, 99, 1, 0)]
        told_before = ask(self.table, *good)
        self.assertEqual(ask(self.table, *bad, *good)[5:], told_before[1:])


if __name__ == "__main__":
    unittest.main()
