"""The examples of the document."""

import unittest

from passedits.books import Book
from passedits.certificates import certify_meeting, certify_promise, certify_sure
from passedits.checker import accepts
from passedits.errors import Broken
from passedits.meeting import keeps, meets, parted, sure
from passedits.mends import holds, mends
from passedits.runs import done, ended
from passedits.tables import Table


class Examples(unittest.TestCase):
    def plain(self):
        return Table.read(
            "kinds put out\nput put > up\nput put = first:keep up\nput out > down\nout put > up\nout put = up\n"
            "out out > down\nout out = stay"
        )

    def lone(self):
        return Table(
            ("out", "set"),
            ("out out > down", "out out = stay", "set out > down", "set out = stay", "set set = first:keep stay"),
        )

    def test_tables(self):
        plain = self.plain()
        self.assertEqual(
            [plain.kinds, len(plain), plain["put", "put", "="], plain["put", "out", "="]],
            [("put", "out"), 7, ("first:keep", "up"), ("keep",)],
        )
        self.assertEqual(
            [
                plain.passed(("put", 2, "x"), ("put", 2, "y"), True),
                plain.passed(("put", 2, "x"), ("put", 2, "y"), False),
                plain.passed(("out", 3), ("out", 3), True),
                plain.passed(("put", 5, "x"), ("out", 4), False),
            ],
            [("put", 2, "x"), ("put", 3, "x"), ("stay",), ("put", 4, "x")],
        )

    def test_runs(self):
        plain = self.plain()
        self.assertEqual(
            [done("abc", ("put", 1, "x")), done("abc", ("out", 2)), done("abc", ("set", 0, "z")), done("", ("stay",))],
            ["axbc", "ab", "zbc", ""],
        )
        three = (("put", 1, "x"), ("out", 0), ("put", 0, "y"))
        self.assertEqual(
            [
                ended(plain, "b", three, (0, 1, 2)),
                ended(plain, "b", three, (1, 2, 0)),
                ended(plain, "abc", (("put", 3, "x"), ("out", 1)), (1, 0)),
            ],
            ["yx", "xy", "acx"],
        )

    def test_meeting(self):
        plain = self.plain()
        lone = self.lone()
        self.assertEqual(
            [meets(plain, 2), meets(plain, 3), sure(plain), meets(lone, 3), sure(lone), len(parted(plain, 3)[0])],
            [True, False, False, True, True, 1],
        )
        self.assertEqual(
            [
                keeps(plain, "puts", 2), keeps(plain, "outs", 2), keeps(lone, "kept", 3), keeps(lone, "sets", 2),
                meets(Table(("put",)), 2),
            ],
            [True, True, True, True, False],
        )

    def test_mends(self):
        bare = Table(("put",), ("put put > up",))
        changes = ("put put > keep", "put put = first:keep up", "put put < keep")
        self.assertEqual(
            [holds(bare, ("meets", 2)), holds(bare, ("keeps", "puts", 2)), mends(bare, (("meets", 2),), changes)],
            [False, True, ((1,),)],
        )

    def test_books(self):
        book = Book()
        book["plain"] = self.plain()
        book["lone"] = self.lone()
        book.wish(("plain", ("meets", 2)))
        book.wish(("lone", ("sure",)))
        self.assertEqual(
            [book.names, len(book.wishes), book.changes, "bare" in book], [("lone", "plain"), 2, 4, False]
        )
        with self.assertRaises(Broken) as caught:
            book.wish(("plain", ("meets", 3)))
        self.assertEqual(caught.exception.index, 2)

    def test_certificates_and_the_checker(self):
        plain = self.plain()
        self.assertEqual(
            [
                certify_meeting(plain, 2)[0][0], certify_meeting(plain, 3)[0][0], certify_sure(self.lone())[0][2],
                certify_promise(plain, "kept", 2)[0][0],
            ],
            ["holds", "parts", ("sure",), "holds"],
        )
        three = (("put", 1, "x"), ("out", 0), ("put", 0, "y"))
        self.assertIs(accepts(("parts", str(plain), 3), ("b", three, (0, 1, 2), (1, 2, 0))), True)


if __name__ == "__main__":
    unittest.main()
