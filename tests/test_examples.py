"""The examples of the document."""

import unittest

from passedits.tables import Table


class Examples(unittest.TestCase):
    def test_tables(self):
        plain = Table.read(
            "kinds put out\nput put > up\nput put = first:keep up\nput out > down\nout put > up\nout put = up\n"
            "out out > down\nout out = stay"
        )
        self.assertEqual(
            [plain.kinds, len(plain), plain["put", "put", "="], plain["put", "out", "="]],
            [("put", "out"), 7, ("first:keep", "up"), ("keep",)],
        )
        self.assertEqual(
            [
                plain.passed(("put", 2, "x"), ("put", 2, "y"), True),
                plain.passed(("put", 2, "x"), ("put", 2, "y"), False),
                plain.passed(("out", 3), ("out", 3), True),
                plain.passed(("put", 5, "x"), ("out", 4), False),
            ],
            [("put", 2, "x"), ("put", 3, "x"), ("stay",), ("put", 4, "x")],
        )

    def test_other_tables_of_the_document(self):
        rows = ("out out > down", "out out = stay", "set out > down", "set out = stay", "set set = first:keep stay")
        self.assertEqual(Table(("out", "set"), rows).rows, rows)
        self.assertEqual(Table(("put",)).rows, ())
        bare = Table(("put",), ("put put > up",))
        for change in ("put put > keep", "put put = first:keep up", "put put < keep"):
            self.assertIn(change, bare.changed(change).rows)


if __name__ == "__main__":
    unittest.main()
