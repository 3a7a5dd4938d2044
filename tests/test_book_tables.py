"""Books: putting, reading and removing tables ([3], [4], [5], [15])."""

import re
import unittest

from helping import Everything, RefusingCase, nested, odd_values, plain, stubborn_values
from passedits.books import Book
from passedits.errors import InUse, InvalidName, NotATable, UnknownName
from passedits.tables import Table
from playing import good

NAMES = ("a", "z", "a0", "z9", "aaaaaaaa", "a1234567", "z9z9z9z9", "put", "stay", "alike", "kinds", "meets", "sure")
NO_NAMES = (
    "", "A", "0", "9a", "1", "aaaaaaaaa", "a12345678", "aB", "a b", " a", "a ", "a\n", "\na", "a_b", "_a", "a-b", "a.b",
    "Plain", "plaiN", "a" * 4000, b"a", ("a",), ["a"], {"a"}, {"a": 1}, frozenset("a"), ("a", "b"), nested(10), 97,
)


def is_name(value):
    """Whether the value is a name by the words of the document."""
    return type(value) is str and re.fullmatch("[a-z][a-z0-9]{0,7}", value) is not None


def no_names():
    """Values of many sorts that are no names."""
    return [value for value in odd_values() if not is_name(value)] + list(NO_NAMES) + stubborn_values()


def held(book):
    """All that a book tells of itself."""
    return book.names, [book[name] for name in book.names], book.wishes, book.changes, len(book)


def wished():
    """A book with tables and wishes."""
    book = Book()
    book["plain"] = plain()
    book["sets"] = good(("set",))
    book["other"] = good(("set",), {("set", "set", "<"): "keep"})
    book["spare"] = Table(("out",))
    book.wish(("plain", ("meets", 2)))
    book.wish(("sets", ("sure",)))
    book.wish(("alike", "other", "sets"))
    return book


class Empty(unittest.TestCase):
    def test_a_new_book(self):
        book = Book()
        self.assertEqual([book.names, book.wishes, book.changes, len(book)], [(), (), 0, 0])
        self.assertEqual([type(book.names), type(book.wishes), type(book.changes)], [tuple, tuple, int])
        for value in odd_values() + list(NAMES) + list(NO_NAMES) + stubborn_values():
            self.assertIs(value in book, False)
            self.assertIs(value not in book, True)

    def test_what_the_interface_lists_is_defined_in_the_class(self):
        for name in ("__setitem__", "__getitem__", "remove", "wish", "lift", "undo", "names", "wishes", "changes",
                     "__contains__", "__len__", "trial", "tried"):
            self.assertIn(name, vars(Book))
        self.assertEqual(Book.__module__, "passedits.books")

    def test_each_book_is_its_own(self):
        one, other = Book(), Book()
        one["a"] = plain()
        self.assertEqual([one.names, other.names, other.changes], [("a",), (), 0])


class Putting(RefusingCase):
    def test_each_name(self):
        book = Book()
        tables = [good(("put",)), plain(), Table(("out",))]
        for many, name in enumerate(NAMES, 1):
            table = tables[many % 3]
            book[name] = table
            self.assertIs(book[name], table)
            self.assertIs(name in book, True)
            self.assertEqual([len(book), book.changes], [many, many])
            self.assertEqual(book.names, tuple(sorted(NAMES[:many])))
            self.assertIs(type(book.names), tuple)

    def test_in_the_place_of_another_one(self):
        book = Book()
        for many, table in enumerate((plain(), Table(("out",)), plain(), good(("put", "set"))), 1):
            book["a"] = table
            self.assertIs(book["a"], table)
            self.assertEqual([book.names, len(book), book.changes], [("a",), 1, many])

    def test_the_same_table_once_more_counts(self):
        book = Book()
        table = plain()
        for many in range(1, 4):
            book["a"] = table
            self.assertEqual([book.names, book.changes], [("a",), many])

    def test_one_table_under_two_names(self):
        book = Book()
        table = plain()
        book["b"] = table
        book["a"] = table
        self.assertIs(book["a"], book["b"])
        self.assertEqual([book.names, len(book), book.changes], [("a", "b"), 2, 2])

    def test_names_are_ascending(self):
        book = Book()
        for name in ("b", "a9", "aa", "a", "z", "ab", "b0", "a0"):
            book[name] = plain()
        self.assertEqual(book.names, ("a", "a0", "a9", "aa", "ab", "b", "b0", "z"))

    def test_no_name(self):
        for book in (Book(), wished()):
            before = held(book)
            for name in no_names():
                self.refused_given(InvalidName, name, book.__setitem__, name, plain())
                self.refused_given(InvalidName, name, book.__setitem__, name, None)
                self.assertEqual(held(book), before)

    def test_no_table(self):
        for book in (Book(), wished()):
            before = held(book)
            for table in odd_values() + stubborn_values() + [str(plain()), book, Book()]:
                if not isinstance(table, Table):
                    for name in ("plain", "sets", "new"):
                        self.refused_given(NotATable, table, book.__setitem__, name, table)
                        self.assertEqual(held(book), before)


class Reading(RefusingCase):
    def test_nothing_under_the_name(self):
        book = wished()
        before = held(book)
        for name in no_names() + list(NAMES) + ["plai", "plain0", "Sets"]:
            self.refused_given(UnknownName, name, book.__getitem__, name)
            self.refused_given(UnknownName, name, book.remove, name)
            self.assertIs(name in book, False)
        self.assertEqual(held(book), before)

    def test_an_empty_book(self):
        for name in no_names() + list(NAMES):
            self.refused_given(UnknownName, name, Book().__getitem__, name)
            self.refused_given(UnknownName, name, Book().remove, name)

    def test_a_book_is_not_iterated_over(self):
        with self.assertRaises(TypeError):
            iter(wished())


class Removing(RefusingCase):
    def test_tables_without_wishes(self):
        book = Book()
        for name in ("a", "b", "c"):
            book[name] = plain()
        for many, (name, left) in enumerate((("b", ("a", "c")), ("a", ("c",)), ("c", ())), 4):
            self.assertIs(book.remove(name), None)
            self.assertEqual([book.names, len(book), book.changes], [left, len(left), many])
            self.assertIs(name in book, False)
            self.refused_given(UnknownName, name, book.__getitem__, name)
            self.refused_given(UnknownName, name, book.remove, name)
        book["a"] = plain()
        self.assertEqual([book.names, book.changes], [("a",), 7])

    def test_a_table_that_no_wish_needs(self):
        book = wished()
        book.remove("spare")
        self.assertEqual([book.names, len(book.wishes), book.changes], [("other", "plain", "sets"), 3, 8])

    def test_the_first_wish_that_needs_it(self):
        book = wished()
        before = held(book)
        for name, index in (("plain", 0), ("sets", 1), ("other", 2)):
            self.refused_index(InUse, index, book.remove, name)
            self.refused_index(InUse, index, book.remove, name=name)
            self.assertEqual(held(book), before)
        book.lift(1)
        self.refused_index(InUse, 1, book.remove, "sets")
        self.refused_index(InUse, 1, book.remove, "other")
        book.lift(1)
        book.remove("sets")
        book.remove("other")
        self.refused_index(InUse, 0, book.remove, "plain")

    def test_both_names_of_one_wish(self):
        book = Book()
        for name in ("a", "b", "c"):
            book[name] = plain()
        book.wish(("alike", "a", "a"))
        book.wish(("alike", "b", "c"))
        book.wish(("c", ("meets", 2)))
        for name, index in (("a", 0), ("b", 1), ("c", 1)):
            self.refused_index(InUse, index, book.remove, name)

    def test_the_words_of_wishes_are_no_names_in_use(self):
        book = Book()
        for name in ("alike", "sure", "meets", "keeps", "puts", "a"):
            book[name] = good(("put",))
        book.wish(("alike", "a", "a"))
        book.wish(("a", ("sure",)))
        book.wish(("a", ("keeps", "puts", 2)))
        for name in ("alike", "sure", "meets", "keeps", "puts"):
            book.remove(name)
        self.assertEqual(book.names, ("a",))


class Compared(unittest.TestCase):
    def test_a_book_equals_itself_alone(self):
        one, other = wished(), wished()
        self.assertIs(one == one, True)
        self.assertIs(one != one, False)
        for book in (other, Book()):
            self.assertIs(one == book, False)
            self.assertIs(book == one, False)
            self.assertIs(one != book, True)
        self.assertIs(Book() == Book(), False)
        self.assertIs(Book() != Book(), True)

    def test_a_book_equals_no_other_value(self):
        for book in (Book(), wished()):
            for value in odd_values() + stubborn_values() + [book.names, len(book), {}, "book"]:
                self.assertIs(book == value, False)
                self.assertIs(book != value, True)

    def test_a_table_equals_no_other_value(self):
        for value in stubborn_values() + [Book(), str(plain())]:
            self.assertIs(plain() == value, False)
            self.assertIs(plain() != value, True)
        self.assertIs(Book() in [plain(), Table(("put",))], False)

    def test_every_book_is_true(self):
        book = Book()
        self.assertIs(bool(book), True)
        book["a"] = plain()
        self.assertIs(bool(book), True)
        book.remove("a")
        self.assertIs(bool(book), True)

    def test_what_equals_all_is_no_name(self):
        book = wished()
        self.assertIs(Everything() in book, False)


class Called(unittest.TestCase):
    def test_by_position_and_by_name(self):
        for named in (False, True):
            book = wished()
            found = [
                book.wish(wish=("sets", ("meets", 3))) if named else book.wish(("sets", ("meets", 3))),
                book.lift(index=3) if named else book.lift(3),
                book.remove(name="spare") if named else book.remove("spare"),
                book.undo(),
            ]
            self.assertEqual(found, [None] * 4)
            self.assertEqual([book.names, len(book.wishes), book.changes], [("other", "plain", "sets", "spare"), 3, 9])

    def test_what_is_returned_is_the_callers_own(self):
        wish = ("plain", ("meets", 2))
        table = plain()
        before = (str(table), table.rows)
        book = Book()
        book["plain"] = table
        book.wish(wish)
        self.assertEqual([wish, (str(table), table.rows)], [("plain", ("meets", 2)), before])
        names, wishes = book.names, book.wishes
        book["more"] = table
        book.lift(0)
        self.assertEqual([names, wishes], [("plain",), (wish,)])

    def test_books_in_the_same_condition_answer_alike(self):
        one, other = wished(), wished()
        other.undo()
        other.wish(("alike", "other", "sets"))
        self.assertEqual(held(one), held(other))


if __name__ == "__main__":
    unittest.main()
