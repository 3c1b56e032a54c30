"""What bending, turns and top refuse, and in which order."""

import unittest

from tests.support import HIGHEST, LOWEST, ask, bending, make, top, turns

THREE = (bending, turns, top)


class Refusals(unittest.TestCase):
    table = make([5, 10, 30], [-4, 6], [1, 2, 3, 4, 5, 6])

    def asked_of_all(self, way, k):
        return ask(self.table, *[call(way, k) for call in THREE])[1:]

    def test_no_table(self):
        for way in (0, 1, 2, -1, LOWEST, HIGHEST):
            for k in (0, -1, 99, LOWEST, HIGHEST):
                self.assertEqual(ask(*[call(way, k) for call in THREE]), [[-5]] * 3)

    def test_no_table_behind_a_make_that_fails(self):
        for wrong in (make([], [], []), make([5, 10], [0, 1], [1, 2, 3]), make([5, 5], [0, 1], [1, 2, 3, 4])):
            for call in THREE:
                self.assertEqual(ask(wrong, call(0, 0), call(2, 0), call(0, 9))[1:], [[-5]] * 3)

    def test_way(self):
        for way in (-1, 2, 3, LOWEST, HIGHEST):
            self.assertEqual(self.asked_of_all(way, 0), [[-1]] * 3)

    def test_way_comes_before_the_line(self):
        for way in (-1, 2, LOWEST, HIGHEST):
            for k in (-1, 2, 3, LOWEST, HIGHEST):
                self.assertEqual(self.asked_of_all(way, k), [[-1]] * 3)

    def test_line(self):
        for way, lines in ((0, 2), (1, 3)):
            for k in (-1, -lines, lines, lines + 1, LOWEST, HIGHEST):
                self.assertEqual(self.asked_of_all(way, k), [[-4]] * 3)
            for k in range(lines):
                self.assertEqual([answer[0] for answer in self.asked_of_all(way, k)], [0] * 3)

    def test_the_first_and_last_line_of_the_largest_table(self):
        table = make(list(range(24)), list(range(16)), list(range(384)))
        for call in THREE:
            for way, k, refused in ((0, 15, 0), (0, 16, -4), (1, 23, 0), (1, 24, -4), (1, 16, 0), (0, -1, -4)):
                self.assertEqual(ask(table, call(way, k))[1][0], refused)

    def test_how_many_numbers_are_answered(self):
        self.assertEqual([len(answer) for answer in self.asked_of_all(0, 1)], [3, 2, 2])
        self.assertEqual([len(answer) for answer in self.asked_of_all(1, 2)], [3, 2, 2])

    def test_a_refusal_changes_nothing(self):
        good = [call(way, 1) for call in THREE for way in (0, 1)]
        bad = [call(*line) for call in THREE for line in ((2, 0), (0, 2), (1, -1))]
        self.assertEqual(ask(self.table, *bad, *good)[10:], ask(self.table, *good)[1:])


if __name__ == "__main__":
    unittest.main()
