"""battenlath.desk.answers as a whole."""

import contextlib
import io
import unittest

from battenlath.desk import answers
from tests.support import at, make, near, piece, some_table


class Answers(unittest.TestCase):
    def test_several_calls_in_one_list(self):
        calls = (
            near(0, 0, 1) + make([0, 1, 2], [0, 6], [0, 1, 0, 0, 1, 0]) + at(0, 0, 1, 2, 0) + make([1], [], [])
            + near(0, 0, 1) + piece(0, 0, 1) + at(2, 0, 0, 1, 0) + near(0, 2, 0)
        )
        asked = [1, -5, 3, 0, 0, 0, 3, 0, 11, 16, 3, 0, 2, 0, 2, 0, 1, 9, 0, 1, 1, 0, 1, -3, 2, 1, 2, 1, -1, 1, -4]
        self.assertEqual(answers(calls), asked)

    def test_what_is_handed_in_stays(self):
        calls = make(*some_table(5, 7, 4, 90)) + at(0, 3, 50, 1, 1) + near(1, 6, 0) + piece(1, 2, 2) + make([], [], [])
        before = list(calls)
        answers(calls)
        self.assertEqual(calls, before)

    def test_twice_the_same(self):
        calls = make(*some_table(6, 7, 4, 90)) + at(0, 3, 50, 1, 1) + near(1, 6, 0) + piece(1, 2, 2)
        first = answers(calls)
        self.assertEqual(answers(calls), first)
        first.append(1)
        self.assertEqual(answers(calls), first[:-1])

    def test_the_object_is_new_each_time(self):
        answers(make([0, 1], [0, 1], [1, 2, 3, 4]))
        self.assertEqual(answers(near(0, 0, 0)), [1, -5])

    def test_only_whole_numbers_are_given_back(self):
        table = some_table(6, 7, 4, 90)
        calls = make(*table) + at(0, 3, table[0][1], 1, 1) + near(1, 6, table[1][1]) + piece(1, 2, 2) + piece(1, 2, 3)
        self.assertEqual({kind.__name__ for kind in map(type, answers(calls))}, {"int"})

    def test_nothing_is_printed(self):
        out = io.StringIO()
        with contextlib.redirect_stdout(out), contextlib.redirect_stderr(out):
            answers(make([0, 1], [0, 1], [1, 2, 3, 4]) + near(0, 0, 0) + near(5, 0, 0))
        self.assertEqual(out.getvalue(), "")

    def test_a_thousand_calls(self):
        table = some_table(11, 24, 16, 1048575)
        first = table[0][0]
        calls = make(*table)
        for i in range(999):
            calls += at(0, i % 16, first * 1048576 + i, 1048576, i % 3)
        told = answers(calls)
        self.assertEqual(told[:4], [3, 0, 0, 0])
        self.assertEqual(told[4::4], [3] * 999)
        self.assertEqual(told[5::4], [0] * 999)

    def test_the_longest_list_of_calls(self):
        calls = make([0] * 300, [0] * 300, [0] * 5000) * 2 + make([0, 1], [0, 1], [0] * 4690)
        self.assertLessEqual(len(calls), 16000)
        self.assertEqual(answers(calls), [3, 0, 2, 0, 3, 0, 2, 0, 3, 0, 1, 4690])


if __name__ == "__main__":
    unittest.main()
