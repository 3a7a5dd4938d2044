"""Table.read, str, == and != ([5], [8])."""

import itertools
import unittest

from helping import ALL_KINDS, PLAIN_TEXT, RefusingCase, cells, odd_values, plain
from passedits.errors import InvalidText
from passedits.tables import Table

TEXTS = [PLAIN_TEXT] + ["kinds " + " ".join(kinds) for kinds in ALL_KINDS] + [
    "kinds put\nput put = less:keep same:stay more:up first:down keep",
    "kinds put set\nset set = first:keep put\nset put < more:put stay",
    "kinds set\nset set > first:up first:down up",
    "kinds out set\nout out > down\nout out = stay\nset out > down\nset out = stay\nset set = first:keep stay",
]


class Read(RefusingCase):
    def refuses(self, text):
        with self.subTest(text=text):
            self.refused_given(InvalidText, text, Table.read, text)
            self.refused_given(InvalidText, text, Table.read, text=text)

    def test_texts(self):
        for text in TEXTS:
            lines = text.split("\n")
            for table in (Table.read(text), Table.read(text=text)):
                with self.subTest(text=text):
                    self.assertIs(type(table), Table)
                    self.assertEqual(str(table), text)
                    self.assertEqual(table.kinds, tuple(lines[0].split(" ")[1:]))
                    self.assertIs(type(table.kinds), tuple)
                    self.assertEqual(table.rows, tuple(lines[1:]))
                    self.assertIs(type(table.rows), tuple)
                    self.assertEqual(table, Table(table.kinds, table.rows))

    def test_texts_with_a_row_for_every_cell(self):
        for kinds in ALL_KINDS:
            rows = [" ".join(cell) + " first:stay up" for cell in cells(kinds)]
            for written in (rows, rows[::-1], rows[1::2]):
                text = "\n".join(["kinds " + " ".join(kinds), *written])
                self.assertEqual(str(Table.read(text)), text)

    def test_a_sign_more(self):
        for text in TEXTS:
            for at in range(len(text) + 1):
                for sign in " \n:x":
                    self.refuses(text[:at] + sign + text[at:])

    def test_a_sign_less(self):
        for text in TEXTS:
            for at in range(len(text)):
                self.refuses(text[:at] + text[at + 1:])

    def test_another_sign(self):
        for text in TEXTS:
            for at in range(len(text)):
                for sign in " \n:Z":
                    if text[at] != sign:
                        self.refuses(text[:at] + sign + text[at + 1:])

    def test_blanks_and_newlines_around(self):
        for text in TEXTS:
            for more in (" ", "\n", "\n\n", " \n", "\n "):
                self.refuses(text + more)
                self.refuses(more + text)

    def test_the_row_of_kinds(self):
        for line in ("", "kinds", "kinds ", "kind put", "Kinds put", "kinds: put", "put", "kinds put put", "kinds stay",
                     "kinds out put", "kinds set put", "kinds put,out", "kinds put out set out", "kinds put kinds",
                     "kinds kinds put", "kinds put stay", "put kinds"):
            self.refuses(line)
            self.refuses(line + "\nput put > up")
        for many in range(5):
            for kinds in itertools.product(("put", "out", "set"), repeat=many):
                if kinds not in ALL_KINDS:
                    self.refuses(" ".join(["kinds", *kinds]))

    def test_rows(self):
        for rows in ("stay", "put put", "put put <", "put put < put", "put out < keep", "out out < keep",
                     "put put < keep\nput put < keep", "put put < keep\nput put < up", "put put < less keep",
                     "put put < keep first:up", "put put < first:keep", "put put <= keep", "kinds put",
                     "put put < keep\nkinds put", "put put < keep\n\nput put > keep", "set set = keep"):
            self.refuses("kinds put\n" + rows)
        self.refuses("put put < keep\nkinds put")
        self.refuses("put put < keep")
        self.refuses("kinds set\nset set = put")
        self.refuses("kinds out set\nset out = less:keep up")
        self.refuses("kinds put\nput put = first:keep first:keep first:keep first:keep first:keep keep")

    def test_a_row_twice(self):
        lines = PLAIN_TEXT.split("\n")
        for at in range(1, len(lines)):
            self.refuses("\n".join([*lines, lines[at]]))
            self.refuses("\n".join([*lines[:at], lines[at], *lines[at:]]))

    def test_values_of_other_sorts(self):
        for value in odd_values():
            self.refuses(value)
        for value in (PLAIN_TEXT.encode(), plain(), [PLAIN_TEXT], (PLAIN_TEXT,), PLAIN_TEXT.split("\n"),
                      tuple(PLAIN_TEXT.split("\n")), ("kinds put",), ["kinds put"]):
            self.refuses(value)


class Equal(unittest.TestCase):
    def equal(self, one, other, whether):
        with self.subTest(one=one, other=other):
            self.assertIs(one == other, whether)
            self.assertIs(other == one, whether)
            self.assertIs(one != other, not whether)
            self.assertIs(other != one, not whether)

    def test_tables_with_equal_texts(self):
        for one, other in itertools.product(TEXTS, repeat=2):
            self.equal(Table.read(one), Table.read(other), one == other)
        table = plain()
        self.equal(table, table, True)
        self.equal(table, Table(("put", "out"), tuple(PLAIN_TEXT.split("\n")[1:])), True)

    def test_the_same_rows_in_another_order(self):
        rows = ("put put < keep", "put put > up", "put put = stay")
        for order in itertools.permutations(rows):
            self.equal(Table(("put",), rows), Table(("put",), order), order == rows)

    def test_other_kinds_and_rows(self):
        self.equal(Table(("put",)), Table(("put", "out")), False)
        self.equal(Table(("put",)), Table(("put",), ("put put < keep",)), False)
        self.equal(Table(("put",), ("put put < up",)), Table(("put",), ("put put < keep",)), False)
        self.equal(Table(("put",), ("put put < up",)), Table(("put", "set"), ("put put < up",)), False)
        self.equal(Table(("put",), ("put put < up",)), Table(("put",), ("put put < up", "put put = up")), False)
        self.equal(Table(("out",), ("out out < first:up up",)), Table(("out",), ("out out < up",)), False)

    def test_values_of_other_classes(self):
        for table in (plain(), Table(("put",))):
            lines = str(table).split("\n")
            for value in (*odd_values(), str(table), lines, tuple(lines), table.kinds, table.rows, len(table),
                          (table.kinds, table.rows), (table,), [table], {"kinds": table.kinds, "rows": table.rows},
                          Table, hash, str(table).encode()):
                if not isinstance(value, Table):
                    self.equal(table, value, False)

    def test_in(self):
        table = plain()
        self.assertIn(plain(), (1, table))
        self.assertIn(plain(), [None, table])
        self.assertNotIn(str(table), (table,))
        self.assertNotIn(table, (str(table), None, Table(("put", "out"))))


if __name__ == "__main__":
    unittest.main()
