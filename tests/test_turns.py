"""Promise 6: turns."""

import unittest

from tests.support import (
    LARGEST, ask, at, lines_by_definition, make, nails_bent, of_line, one_line, quotients, some_table, turns,
)

SIZES = ((2, 2), (2, 16), (24, 2), (3, 3), (4, 5), (6, 7), (10, 9), (14, 16))


def turns_of(bends):
    """How often the sign changes from one bend that isn't 0 to the next that isn't."""
    signs = ["+" if bend > 0 else "-" for bend in bends if bend != 0]
    return "".join(signs).count("+-") + "".join(signs).count("-+")


class ByHand(unittest.TestCase):
    def test_never(self):
        self.assertEqual(of_line([0, 1, 2], [0, 1, 0])[1], [0, 0])
        self.assertEqual(of_line([0, 1, 2], [1, 0, 1])[1], [0, 0])
        self.assertEqual(of_line(list(range(9)), [x * x for x in range(9)])[1], [0, 0])

    def test_once(self):
        self.assertEqual(of_line([0, 1, 2, 3], [0, 9, 0, 9])[1], [0, 1])
        self.assertEqual(of_line([0, 5, 6, 30], [9, 0, 9, 0])[1], [0, 1])
        self.assertEqual(of_line([0, 1, 2, 3], [0, 1, 2, 2])[1], [0, 1])
        self.assertEqual(of_line([0, 1, 2, 3], [2, 1, 0, 0])[1], [0, 1])
        self.assertEqual(of_line([0, 1, 2, 3], [2, 2, 1, 0])[1], [0, 1])
        self.assertEqual(of_line([0, 1, 2, 3], [0, 0, 1, 2])[1], [0, 1])

    def test_often(self):
        for many in range(3, 25):
            xs = [i * i for i in range(many)]
            self.assertEqual(of_line(xs, [7 * (i % 2) for i in range(many)])[1], [0, many - 3])

    def test_each_change_is_counted(self):
        for sixths, asked in (
            ([0, 1, 2, 0], 0), ([0, -1, -2, 0], 0), ([0, 1, -2, 0], 1), ([0, -2, 1, 0], 1),
            ([0, 1, 1, -1, -1, 1, 0], 2), ([0, -1, 1, 2, 3, -4, 0], 2), ([0, 1, -1, 1, -1, 1, -1, 0], 5),
        ):
            xs = list(range(len(sixths)))
            self.assertEqual(of_line(xs, nails_bent(xs, sixths))[1], [0, asked], sixths)


class Nought(unittest.TestCase):
    """Where the bend is 0 at a nail or along a whole cubic."""

    def check(self, sixths, asked):
        xs = [2 * i + i * i for i in range(len(sixths))]
        ys = nails_bent(xs, sixths)
        bends = ask(one_line(xs, ys), *[at(0, 0, x, 1, 2) for x in xs])[1:]
        self.assertEqual([quotients(bend)[0] for bend in bends], [6 * sixth for sixth in sixths])
        self.assertEqual(of_line(xs, ys)[1], [0, asked], sixths)

    def test_written_out(self):
        self.assertEqual(of_line([0, 1, 2, 3, 4], [6, 1, 0, 1, 6])[1], [0, 0])
        self.assertEqual(of_line([0, 1, 2, 3, 4], [2, 0, 2, 4, 2])[1], [0, 1])

    def test_at_an_inner_nail(self):
        self.check([0, 1, 0, 1, 0], 0)
        self.check([0, -1, 0, -1, 0], 0)
        self.check([0, 1, 0, -1, 0], 1)
        self.check([0, -1, 0, 1, 0], 1)
        self.check([0, 1, 0, -1, 0, -1, 0, 1, 0], 2)

    def test_along_a_whole_cubic(self):
        self.check([0, 1, 0, 0, 1, 0], 0)
        self.check([0, 1, 0, 0, -1, 0], 1)
        self.check([0, -1, 0, 0, 0, 1, 0, 0, 1, 0], 1)

    def test_at_an_end(self):
        self.check([0, 0, 1, 0], 0)
        self.check([0, 0, 0, -1, 0, 0], 0)
        self.check([0, 0, 1, -1, 0, 0], 1)


class Straight(unittest.TestCase):
    def test_lines_that_do_not_bend(self):
        for xs in ([0, 1], [0, LARGEST], [0, 1, 2], [0, 1, 5, 7, 30], list(range(24)), [0, 1, LARGEST]):
            for ys in ([0 for x in xs], [xs[-1] - x for x in xs], [x for x in xs], [LARGEST for x in xs]):
                self.assertEqual(of_line(xs, ys)[1], [0, 0])

    def test_half_breadths_all_nought(self):
        table = make(list(range(24)), list(range(16)), [0] * 384)
        lines = [turns(0, k) for k in range(16)] + [turns(1, k) for k in range(24)]
        self.assertEqual(ask(table, *lines)[1:], [[0, 0]] * 40)


class ByDefinition(unittest.TestCase):
    def check_tables(self, seed, size):
        for table, way, k, xs, ys, cubics in lines_by_definition(seed, SIZES, size):
            bends = []
            for i, (a, b, c, d) in enumerate(cubics):
                for eighth in range(9):
                    bends.append(2 * c + 6 * d * (xs[i + 1] - xs[i]) * eighth / 8)
            self.assertEqual(ask(make(*table), turns(way, k))[1], [0, turns_of(bends)], (xs, ys))

    def test_small_measures(self):
        self.check_tables(300, 30)

    def test_large_measures(self):
        self.check_tables(350, LARGEST)

    def test_every_line_of_a_large_table(self):
        table = some_table(8, 24, 16, LARGEST)
        for way in (0, 1):
            for k in range(len(table[1 - way])):
                answers = ask(make(*table), turns(way, k), *[at(way, k, x, 1, 2) for x in table[way]])[1:]
                bends = [quotients(answer)[0] for answer in answers[1:]]
                self.assertEqual(answers[0], [0, turns_of(bends)])


if __name__ == "__main__":
    unittest.main()
