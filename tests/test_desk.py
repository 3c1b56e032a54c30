"""battenlath.desk.answers as a whole."""

import contextlib
import io
import unittest

from battenlath.desk import NoSuchCall, answers
from tests.support import (
    HIGHEST, LOWEST, ask, at, bending, make, near, nails, piece, some_table, top, turns,
)


def each_on(table, way, k):
    """Each of the six calls on this line, one at least."""
    xs = nails(table, way, k)[0]
    return [
        at(way, k, xs[0] + xs[-1], 2, 0), at(way, k, xs[0], 1, 1), at(way, k, xs[0] * 3 + 1, 3, 2),
        near(way, k, (xs[0] + xs[-1]) // 2), piece(way, k, 0), bending(way, k), turns(way, k), top(way, k),
    ]


class Answers(unittest.TestCase):
    def test_several_calls_in_one_list(self):
        calls = (
            near(0, 0, 1) + make([0, 1, 2], [0, 6], [0, 1, 0, 0, 1, 0]) + at(0, 0, 1, 2, 0) + make([1], [], [])
            + near(0, 0, 1) + piece(0, 0, 1) + at(2, 0, 0, 1, 0) + near(0, 2, 0)
        )
        asked = [1, -5, 3, 0, 0, 0, 3, 0, 11, 16, 3, 0, 2, 0, 2, 0, 1, 9, 0, 1, 1, 0, 1, -3, 2, 1, 2, 1, -1, 1, -4]
        self.assertEqual(answers(calls), asked)

    def test_all_seven_written_out(self):
        calls = (
            top(0, 0) + make([0, 1, 2, 3], [0, 6], [0, 20, 20, 0, 0, 9, 0, 9]) + bending(0, 0) + turns(0, 0) + top(0, 0)
            + turns(0, 1) + top(0, 1) + at(0, 0, 3, 2, 0) + near(0, 0, 1) + piece(0, 0, 1) + bending(1, 1) + top(1, 1)
            + make([0, 1], [3, 3], [1, 2, 3, 4]) + turns(0, 1) + make([0, 1, 2], [0, 6], [0, 1, 0, 0, 2, 0])
            + bending(0, 0) + top(0, 1) + turns(0, 1) + top(1, 3) + bending(2, 3)
        )
        asked = [
            1, -5, 3, 0, 0, 0, 3, 0, 960, 1, 2, 0, 0, 2, 0, 23, 2, 0, 1, 2, 0, 10, 3, 0, 23, 1, 2, 0, 20,
            9, 0, 20, 1, 12, 1, -12, 1, 0, 1, 3, 0, 0, 1, 2, 0, 20, 3, 0, 4, 1, 2, 0, 1, 3, 0, 0, 0,
            3, 0, 6, 1, 2, 0, 2, 2, 0, 0, 1, -4, 1, -1,
        ]
        self.assertEqual(answers(calls), asked)

    def test_all_seven_mixed_and_the_table_made_anew(self):
        wrong = (
            make([], [], []), make([0], [0, 1], [1, 2]), make([0, 1], [0, 1], [1, 2, 3]),
            make([0, 1], [0, 1], [1, 2, 3, -1]), make([HIGHEST] * 300, [LOWEST] * 300, [HIGHEST] * 20),
        )
        refused = (at(0, 0, 0, 0, 0), near(0, 0, HIGHEST), piece(0, 0, LOWEST), bending(2, 0), turns(0, -1), top(1, 99))
        mixed = []
        alone = []
        for seed, (stations, levels) in enumerate(((4, 3), (2, 16), (24, 2), (7, 5), (3, 2))):
            table = some_table(seed + 60, stations, levels, (40, 1048575)[seed % 2])
            mixed.append(make(*table))
            alone.append([0, 0, 0])
            for number, (way, k) in enumerate(((0, 0), (1, 0), (0, levels - 1), (1, stations - 1))):
                for call in each_on(table, way, k):
                    mixed.append(call)
                    alone.append(ask(make(*table), call)[1])
                mixed.append(wrong[(seed + number) % len(wrong)])
                alone.append(ask(mixed[-1])[0])
                mixed.append(refused[(seed + number) % len(refused)])
                alone.append(ask(make(*table), mixed[-1])[1])
        self.assertEqual(ask(*mixed), alone)

    def all_kinds_of_calls(self, seed):
        table = some_table(seed, 7, 4, 90)
        calls = make(*table)
        for way, k in ((0, 3), (1, 6)):
            for call in each_on(table, way, k):
                calls = calls + call
        return calls + make([], [], []) + top(0, 1) + bending(7, 7)

    def test_there_is_no_eighth_call(self):
        for number in (0, 8, -1):
            with self.assertRaises(NoSuchCall):
                answers(make([0, 1], [0, 1], [1, 2, 3, 4]) + [number, 0, 0])

    def test_what_is_handed_in_stays(self):
        calls = self.all_kinds_of_calls(5)
        before = list(calls)
        answers(calls)
        self.assertEqual(calls, before)

    def test_twice_the_same(self):
        calls = self.all_kinds_of_calls(6)
        first = answers(calls)
        self.assertEqual(answers(calls), first)
        first.append(1)
        self.assertEqual(answers(calls), first[:-1])

    def test_the_object_is_new_each_time(self):
        answers(make([0, 1], [0, 1], [1, 2, 3, 4]))
        for call in (near(0, 0, 0), bending(0, 0), turns(0, 0), top(0, 0)):
            self.assertEqual(answers(call), [1, -5])

    def test_only_whole_numbers_are_given_back(self):
        told = answers(self.all_kinds_of_calls(6))
        self.assertEqual({kind.__name__ for kind in map(type, told)}, {"int"})
        self.assertEqual(type(told).__name__, "list")

    def test_nothing_is_printed(self):
        out = io.StringIO()
        with contextlib.redirect_stdout(out), contextlib.redirect_stderr(out):
            answers(self.all_kinds_of_calls(7))
        self.assertEqual(out.getvalue(), "")

    def test_a_thousand_calls(self):
        table = some_table(11, 24, 16, 1048575)
        first = table[0][0]
        calls = make(*table)
        for i in range(999):
            calls += at(0, i % 16, first * 1048576 + i, 1048576, i % 3)
        told = answers(calls)
        self.assertEqual(told[:4], [3, 0, 0, 0])
        self.assertEqual(told[4::4], [3] * 999)
        self.assertEqual(told[5::4], [0] * 999)

    def test_a_thousand_calls_in_sixteen_thousand_numbers(self):
        table = some_table(12, 24, 16, 1048575)
        lines = [(0, k) for k in range(16)] + [(1, k) for k in range(24)]
        asked = {}
        for call in (bending, turns, top):
            for line in lines:
                asked[call, line] = answers(make(*table) + call(*line))[4:]
        calls = make(*table) * 30
        told = [3, 0, 0, 0] * 30
        for i in range(969):
            call = (bending, turns, top)[i % 3]
            line = lines[i % 40]
            calls = calls + call(*line)
            told = told + asked[call, line]
        rest = 16000 - len(calls) - 4
        calls = calls + make([], [], [HIGHEST] * rest)
        self.assertEqual(len(calls), 16000)
        self.assertEqual(answers(calls), told + [3, 0, 2, 0])

    def test_the_longest_list_of_calls(self):
        calls = make([0] * 300, [0] * 300, [0] * 5000) * 2 + make([0, 1], [0, 1], [0] * 4690)
        self.assertLessEqual(len(calls), 16000)
        self.assertEqual(answers(calls), [3, 0, 2, 0, 3, 0, 2, 0, 3, 0, 1, 4690])


if __name__ == "__main__":
    unittest.main()
