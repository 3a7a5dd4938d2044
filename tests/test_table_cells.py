"""table[mine, its, relation] ([7])."""

import unittest

from helping import ALL_KINDS, RefusingCase, cells, odd_values, plain
from passedits.errors import UnknownName
from passedits.tables import Table


class Cells(RefusingCase):
    def has(self, table, cell, options):
        mine, its, relation = cell
        with self.subTest(table=str(table), cell=cell):
            for found in (table[mine, its, relation], table[cell]):
                self.assertEqual(found, options)
                self.assertIs(type(found), tuple)

    def refuses(self, table, key):
        with self.subTest(table=str(table), key=key):
            self.refused_given(UnknownName, key, lambda: table[key])

    def test_written_and_other_cells(self):
        written = {
            ("put", "put", ">"): ("up",), ("put", "put", "="): ("first:keep", "up"), ("put", "out", ">"): ("down",),
            ("out", "put", ">"): ("up",), ("out", "put", "="): ("up",), ("out", "out", ">"): ("down",),
            ("out", "out", "="): ("stay",),
        }
        for cell in cells(("put", "out")):
            self.has(plain(), cell, written.get(cell, ("keep",)))

    def test_cells_of_a_table_without_rows(self):
        for kinds in ALL_KINDS:
            for cell in cells(kinds):
                self.has(Table(kinds), cell, ("keep",))

    def test_one_written_cell(self):
        for kinds in ALL_KINDS:
            for cell in cells(kinds):
                for options in (("up",), ("first:stay", "first:down", "keep"), ("keep",)):
                    table = Table(kinds, (" ".join([*cell, *options]),))
                    for other in cells(kinds):
                        self.has(table, other, options if other == cell else ("keep",))

    def test_five_options(self):
        options = ("less:keep", "same:stay", "first:down", "same:up", "put")
        self.has(Table(("put", "set"), ("set put > " + " ".join(options),)), ("set", "put", ">"), options)

    def test_kinds_that_are_not_the_tables(self):
        for kinds in ALL_KINDS:
            for mine, its, relation in cells(("put", "out", "set", "stay")):
                if mine not in kinds or its not in kinds:
                    self.refuses(Table(kinds), (mine, its, relation))

    def test_keys_of_other_sorts(self):
        for table in (plain(), Table(("put",)), Table(("put", "out", "set"), ("put put = up",))):
            for key in odd_values():
                self.refuses(table, key)

    def test_keys_that_are_no_triple(self):
        for key in (("put", "put"), ("put", "put", "=", "keep"), ("put", "put", "=", "="), ("put",), (),
                    ["put", "put", "="], "put put =", "put put = keep", (("put", "put", "="),), ("put", ("put", "=")),
                    {"put": "put"}):
            self.refuses(plain(), key)

    def test_triples_of_other_values(self):
        for value in (None, True, 0, "", "Put", "put ", "pu", "stay", "keep", "=", b"put", ["put"], ("put",), {},
                      set(), plain(), object()):
            self.refuses(plain(), (value, "put", "="))
            self.refuses(plain(), ("put", value, "="))
        for value in (None, True, 0, "", "<=", "==", "=>", "<=>", "!=", "keep", "put", b"=", ["="], ("=",), {}, plain()):
            self.refuses(plain(), ("put", "put", value))

    def test_a_cell_in_another_order_of_its_words(self):
        for key in (("=", "put", "put"), ("put", "=", "put"), ("out", "=", "put")):
            self.refuses(plain(), key)


if __name__ == "__main__":
    unittest.main()
