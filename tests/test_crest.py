"""The root and the crest by themselves, where no line of a table tells a root from the one beside it."""

import unittest

from battenlath.crest import crest_ceiling, has_crest, root_ceiling


class Roots(unittest.TestCase):
    def test_small(self):
        for number in range(2000):
            root = root_ceiling(number)
            self.assertGreaterEqual(root * root, number)
            self.assertTrue(root == 0 or (root - 1) ** 2 < number)
        self.assertEqual([root_ceiling(number) for number in range(6)], [0, 1, 2, 2, 2, 3])

    def test_beside_squares(self):
        for root in (2 ** 31, 10 ** 30 + 7, 3 ** 500, 2 ** 3001 - 1, 7 ** 1100):
            self.assertEqual(root_ceiling(root * root - 1), root)
            self.assertEqual(root_ceiling(root * root), root)
            self.assertEqual(root_ceiling(root * root + 1), root + 1)


class Crests(unittest.TestCase):
    def test_a_crest_at_no_quotient(self):
        # 15 t - t^3 has its crest at the root of 5: ten times that root, between 22 and 23.
        self.assertTrue(has_crest((0, 15, 0, -1, 1), 3))
        self.assertFalse(has_crest((0, 15, 0, -1, 1), 2))
        self.assertEqual(crest_ceiling((0, 15, 0, -1, 1)), 23)
        self.assertEqual(crest_ceiling((-22, 15, 0, -1, 1)), 1)
        self.assertEqual(crest_ceiling((-23, 15, 0, -1, 1)), 0)

    def test_a_cubic_that_is_nowhere_level(self):
        self.assertFalse(has_crest((0, 1, 0, 3, 1), 1))
        self.assertFalse(has_crest((0, -10, 9, -3, 1), 1))


if __name__ == "__main__":
    unittest.main()
