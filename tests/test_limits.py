"""The constants of passedits.limits."""

import unittest

from passedits import limits


class Limits(unittest.TestCase):
    def test_each_constant(self):
        for name, number in (
            ("MOST_OPTIONS", 5), ("LEAST_PLACE", -9), ("MOST_PLACE", 1000000000000), ("MOST_SIGNS", 1000),
            ("MOST_EDITS", 6), ("MOST_CHANGES", 6), ("MOST_WISHES", 6),
        ):
            with self.subTest(name=name):
                self.assertEqual(getattr(limits, name), number)
                self.assertIs(type(getattr(limits, name)), int)


if __name__ == "__main__":
    unittest.main()
