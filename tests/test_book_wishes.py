"""Books: wishes, and what would break them ([2], [4], [5], [15])."""

import unittest

from helping import ALL_KINDS, RefusingCase, nested, odd_values, plain, stubborn_values
from passedits.books import Book
from passedits.errors import Broken, InvalidIndex, InvalidWish, UnknownName
from passedits.mends import holds
from passedits.tables import Table
from playing import PROMISES, good
from test_book_tables import NO_NAMES, held, wished
from test_mends import WISHES, WRONG_WISHES

SURE = ("sure",)
MEETS = ("meets", 2)
WRONG_BOOK_WISHES = (
    (), ("plain",), ("plain", MEETS, MEETS), ("plain", "meets", 2), ("plain", "sure"), ("plain", ("plain", SURE)),
    ("plain", (SURE,)), ("plain", ()), ("plain", None), (SURE, "plain"), (MEETS,), MEETS, SURE, ("keeps", "puts", 2),
    ("meets", 2), ["plain", MEETS], ["alike", "plain", "sets"], ("plain", ["meets", 2]), ("plain", ["sure"]),
    ("alike",), ("alike", "plain"), ("alike", "plain", "sets", "other"), ("alike", "plain", ("sets",)),
    ("alike", ("plain",), "sets"), ("alike", "plain", 1), ("alike", True, "plain"), ("alike", ["plain"], "sets"),
    ("Alike", "plain", "sets"), ("alike ", "plain", "sets"), ("alikes", "plain", "sets"), (b"alike", "plain", "sets"),
    ("plain", "alike", "sets"), ("plain", "plain", "plain"), ("unlike", "plain", "sets"), ("alike", ("plain", "sets")),
    ("plain", "alike"), "alike plain sets", "alike", "plain", {"plain": MEETS}, {"plain", MEETS}, (None, MEETS),
    ("plain", True), (("plain", MEETS),), (("alike", "plain", "sets"),), nested(9),
)


def one_table(table, *wishes):
    """A book with this table under the name a, and these wishes."""
    book = Book()
    book["a"] = table
    for wish in wishes:
        book.wish(wish)
    return book


class Wishing(RefusingCase):
    def test_wishes_that_hold_and_that_do_not(self):
        for kinds in ALL_KINDS:
            for table in (good(kinds), Table(kinds)):
                book = one_table(table)
                made = []
                for wish in WISHES:
                    if holds(table, wish):
                        made.append(("a", wish))
                        self.assertIs(book.wish(("a", wish)), None)
                    else:
                        self.refused_index(Broken, len(made), book.wish, ("a", wish))
                    self.assertEqual([book.wishes, book.changes], [tuple(made), 1 + len(made)])
                    self.assertIs(type(book.wishes), tuple)

    def test_the_same_wish_once_more(self):
        book = one_table(plain(), *[("a", MEETS)] * 3)
        self.assertEqual([book.wishes, book.changes], [(("a", MEETS),) * 3, 4])

    def test_many_wishes(self):
        wishes = tuple([("a", MEETS), ("alike", "a", "a")] * 10)
        self.assertEqual(one_table(plain(), *wishes).wishes, wishes)

    def test_a_table_called_alike(self):
        book = Book()
        book["alike"] = plain()
        book.wish(("alike", MEETS))
        book.wish(("alike", "alike", "alike"))
        self.refused_index(Broken, 2, book.wish, ("alike", SURE))
        self.assertEqual(book.wishes, (("alike", MEETS), ("alike", "alike", "alike")))

    def test_no_wish_for_a_book(self):
        for book in (Book(), wished()):
            before = held(book)
            wrong = list(WRONG_BOOK_WISHES) + [("plain", wish) for wish in odd_values() + list(WRONG_WISHES)]
            wrong += [(name, MEETS) for name in NO_NAMES] + [("alike", name, "plain") for name in NO_NAMES]
            wrong += [("alike", "plain", name) for name in NO_NAMES] + odd_values() + stubborn_values()
            for value in stubborn_values():
                wrong += [(value,), (value, MEETS), ("plain", value), ("plain", (value,)), ("plain", ("meets", value)),
                          ("plain", ("keeps", value, 2)), ("plain", ("keeps", "puts", value)),
                          (value, "plain", "plain"), ("alike", value, "plain"), ("alike", "plain", value)]
            for wish in wrong:
                self.refused_given(InvalidWish, wish, book.wish, wish)
                self.assertEqual(held(book), before)

    def test_no_table_under_a_name(self):
        book = wished()
        before = held(book)
        for wish, name in (
            (("none", MEETS), "none"), (("none", SURE), "none"), (("alike", MEETS), "alike"),
            (("alike", "none", "plain"), "none"), (("alike", "plain", "none"), "none"),
            (("alike", "none", "nil"), "none"), (("alike", "nil", "none"), "nil"), (("alike", "none", "none"), "none"),
            (("alike", "spare", "none"), "none"), (("alike", "none", "spare"), "none"), (("plai", MEETS), "plai"),
        ):
            self.assertEqual(self.refused(UnknownName, book.wish, wish).given, name)
            self.assertEqual(held(book), before)

    def test_the_order_of_the_errors(self):
        book = wished()
        self.refused_given(InvalidWish, ("none", None), book.wish, ("none", None))
        self.refused(UnknownName, book.wish, ("none", ("meets", 3)))
        self.refused_index(Broken, 3, book.wish, ("plain", ("meets", 3)))


class Alike(RefusingCase):
    def test_one_table_with_itself(self):
        for kinds in ALL_KINDS:
            for table in (good(kinds), Table(kinds)):
                self.assertEqual(one_table(table, ("alike", "a", "a")).wishes, (("alike", "a", "a"),))

    def test_two_tables(self):
        for one, other, expected in (
            (plain(), plain(), True),
            (plain(), plain().changed("out out < keep"), True),
            (plain(), plain().changed("put put = first:keep first:stay up"), True),
            (plain(), plain().changed("out out = keep"), False),
            (plain(), Table(("put", "out")), False),
            (Table(("put",)), Table(("put",), ("put put < keep",)), True),
            (Table(("put",)), Table(("put",), ("put put < up",)), False),
        ):
            for pair in ((one, other), (other, one)):
                book = one_table(pair[0])
                book["b"] = pair[1]
                for wish in (("alike", "a", "b"), ("alike", "b", "a")):
                    if expected:
                        book.wish(wish)
                        self.assertEqual(book.wishes[-1], wish)
                    else:
                        self.refused_index(Broken, 0, book.wish, wish)
                        self.assertEqual([book.wishes, book.changes], [(), 2])

    def test_tables_for_other_kinds(self):
        for one in ALL_KINDS:
            for other in ALL_KINDS:
                book = one_table(Table(one))
                book["b"] = Table(other)
                if one == other:
                    self.assertIs(book.wish(("alike", "a", "b")), None)
                else:
                    self.refused_index(Broken, 0, book.wish, ("alike", "a", "b"))

    def test_putting_another_table(self):
        book = one_table(plain())
        book["b"] = plain()
        book.wish(("alike", "a", "b"))
        before = held(book)
        for name in ("a", "b"):
            for table in (Table(("put", "out")), Table(("put",)), good(("put", "out", "set"))):
                self.refused_index(Broken, 0, book.__setitem__, name, table)
                self.assertEqual(held(book), before)
        same = plain().changed("out put < keep")
        book["b"] = same
        self.assertIs(book["b"], same)
        self.assertEqual(book.changes, 4)

    def test_putting_another_table_alike_itself(self):
        book = one_table(plain(), ("alike", "a", "a"))
        book["a"] = Table(("set",))
        self.assertEqual(book["a"], Table(("set",)))


class Putting(RefusingCase):
    def test_the_first_wish_that_would_not_hold(self):
        table = good(("put",))
        wishes = [("keeps", "outs", 2), ("keeps", "puts", 2), MEETS, ("meets", 3), SURE]
        book = one_table(table, *[("a", wish) for wish in wishes])
        before = held(book)
        # Puts that stay, puts that never turn.
        for other, index in ((good(("put",), {("put", "put", "="): "stay"}), 1), (Table(("put",)), 2),
                             (Table(("out",)), 0)):
            self.refused_index(Broken, index, book.__setitem__, "a", other)
            self.assertEqual(held(book), before)
        self.assertIs(book["a"], table)

    def test_only_wishes_of_this_name_count(self):
        book = one_table(plain(), ("a", MEETS))
        book["b"] = plain()
        book.wish(("b", ("keeps", "kept", 2)))
        book.wish(("b", MEETS))
        book["c"] = plain()
        for name, index in (("a", 0), ("b", 1)):
            self.refused_index(Broken, index, book.__setitem__, name, Table(("put", "out")))
        book["c"] = Table(("put", "out"))
        book["d"] = Table(("out",))
        self.assertEqual(book.names, ("a", "b", "c", "d"))

    def test_a_pair_and_an_alike(self):
        book = one_table(plain())
        book["b"] = plain()
        book.wish(("alike", "b", "a"))
        book.wish(("a", MEETS))
        self.refused_index(Broken, 0, book.__setitem__, "a", Table(("put", "out")))
        book.lift(0)
        self.refused_index(Broken, 0, book.__setitem__, "a", Table(("put", "out")))
        book.lift(0)
        book["a"] = Table(("put", "out"))
        self.refused_index(Broken, 0, book.wish, ("alike", "b", "a"))

    def test_a_better_table_and_more_wishes(self):
        book = one_table(Table(("put",)))
        for wish in (MEETS, ("meets", 3), SURE):
            self.refused_index(Broken, 0, book.wish, ("a", wish))
        book["a"] = good(("put",))
        for wish in (MEETS, ("meets", 3), SURE):
            book.wish(("a", wish))
        self.refused_index(Broken, 0, book.__setitem__, "a", Table(("put",)))
        self.assertEqual([len(book.wishes), book.changes], [3, 5])

    def test_promises(self):
        for promise in PROMISES:
            for many in (2, 3):
                book = one_table(good(("set",)), ("a", MEETS), ("a", ("keeps", promise, many)))
                # A set that moves away from another one meets no more, and keeps no promise: it may be out of the list.
                self.refused_index(Broken, 0, book.__setitem__, "a", good(("set",), {("set", "set", "="): "up"}))
                book.lift(0)
                self.refused_index(Broken, 0, book.__setitem__, "a", good(("set",), {("set", "set", "="): "up"}))
                book["a"] = good(("set",), {("set", "set", "="): "more:keep stay"})
                self.assertEqual([len(book.wishes), book.changes], [1, 5])


class Lifting(RefusingCase):
    def test_each_index(self):
        wishes = tuple(("a", wish) for wish in (MEETS, ("keeps", "puts", 2), ("keeps", "outs", 2), MEETS))
        for index in range(4):
            book = one_table(plain(), *wishes)
            self.assertIs(book.lift(index), None)
            self.assertEqual(book.wishes, wishes[:index] + wishes[index + 1:])
            self.assertEqual([book.changes, book.names], [6, ("a",)])

    def test_what_is_wished_no_more(self):
        book = one_table(plain(), ("a", MEETS), ("a", ("keeps", "puts", 2)))
        book.lift(0)
        book["a"] = Table(("put",))
        self.assertEqual(book.wishes, (("a", ("keeps", "puts", 2)),))
        book.lift(0)
        book["a"] = Table(("out",))
        self.assertEqual(book.wishes, ())

    def test_no_index(self):
        for book, many in ((Book(), 0), (one_table(plain(), ("a", MEETS)), 1), (wished(), 3)):
            before = held(book)
            indexes = odd_values() + stubborn_values() + [-1, -2, -3, many, many + 1, 10 ** 40 - 1, "0", (0,), [0]]
            for index in indexes:
                if type(index) is int and 0 <= index < many:
                    continue
                self.refused_given(InvalidIndex, index, book.lift, index)
                self.assertEqual(held(book), before)


if __name__ == "__main__":
    unittest.main()
