"""Books: taking changes back ([2], [3], [4], [15]), and long rows of calls beside a book written out anew."""

import random
import unittest

from helping import RefusingCase, plain
from passedits.books import Book
from passedits.errors import Broken, InUse, InvalidIndex, InvalidName, NothingToUndo, NotATable, UnknownName
from passedits.meeting import alike
from passedits.mends import holds
from passedits.tables import Table
from playing import good
from test_book_tables import held, wished

MEETS = ("meets", 2)
NAMES = ("a", "b", "c")
TABLES = (
    good(("put",)), Table(("put",)), good(("put",), {("put", "put", "<"): "keep"}), plain(), good(("set",)),
    good(("put",), {("put", "put", "="): "stay"}),
)
WISHES = (MEETS, ("sure",), ("keeps", "puts", 2), ("keeps", "kept", 2))


class Undoing(RefusingCase):
    def test_nothing_to_undo(self):
        book = Book()
        self.refused(NothingToUndo, book.undo)
        self.assertEqual(held(book), held(Book()))
        book["a"] = plain()
        book.undo()
        self.refused(NothingToUndo, book.undo)
        self.assertEqual(held(book), held(Book()))

    def test_each_change_back_to_the_beginning(self):
        book = Book()
        calls = [
            lambda: book.__setitem__("a", plain()),
            lambda: book.__setitem__("b", good(("put",))),
            lambda: book.__setitem__("b", good(("put",))),
            lambda: book.wish(("a", MEETS)),
            lambda: book.__setitem__("a", plain().changed("out out < keep")),
            lambda: book.wish(("b", MEETS)),
            lambda: book.wish(("a", MEETS)),
            lambda: book.lift(1),
            lambda: book.__setitem__("b", Table(("put",))),
            lambda: book.remove("b"),
            lambda: book.lift(0),
            lambda: book.lift(0),
            lambda: book.remove("a"),
        ]
        states = [held(book)]
        for call in calls:
            call()
            states.append(held(book))
        self.assertEqual([state[3] for state in states], list(range(len(calls) + 1)))
        while len(states) > 1:
            self.assertEqual(held(book), states.pop())
            self.assertIs(book.undo(), None)
        self.assertEqual(held(book), states.pop())
        self.refused(NothingToUndo, book.undo)

    def test_the_very_table_stands_there_again(self):
        one, other = plain(), plain()
        book = Book()
        book["a"] = one
        book["a"] = other
        book.undo()
        self.assertIs(book["a"], one)
        book.remove("a")
        book.undo()
        self.assertIs(book["a"], one)

    def test_other_changes_behind_an_undo(self):
        book = Book()
        book["a"] = plain()
        book["b"] = plain()
        book.undo()
        book["c"] = plain()
        self.assertEqual([book.names, book.changes], [("a", "c"), 2])
        book.undo()
        self.assertEqual([book.names, book.changes], [("a",), 1])
        book.undo()
        self.assertEqual([book.names, book.changes], [(), 0])

    def test_what_was_refused_is_not_taken_back(self):
        book = wished()
        before = held(book)
        for error, call in (
            (Broken, lambda: book.__setitem__("plain", Table(("put",)))),
            (Broken, lambda: book.wish(("plain", ("meets", 3)))),
            (InUse, lambda: book.remove("plain")),
            (UnknownName, lambda: book.remove("none")),
            (UnknownName, lambda: book.wish(("none", MEETS))),
            (InvalidIndex, lambda: book.lift(3)),
            (InvalidName, lambda: book.__setitem__("", plain())),
            (NotATable, lambda: book.__setitem__("plain", None)),
        ):
            self.refused(error, call)
            self.assertEqual(held(book), before)
        book.undo()
        self.assertEqual([len(book.wishes), book.changes], [2, 6])

    def test_wishes_taken_back_do_not_count(self):
        book = Book()
        book["a"] = plain()
        book.wish(("a", MEETS))
        self.refused_index(Broken, 0, book.__setitem__, "a", Table(("put",)))
        book.undo()
        book["a"] = Table(("put",))
        book.remove("a")
        book.undo()
        book.undo()
        self.assertEqual(book["a"], plain())

    def test_very_many_changes(self):
        book = Book()
        table = plain()
        for _ in range(20000):
            book["a"] = table
        self.assertEqual(book.changes, 20000)
        for _ in range(20000):
            book.undo()
        self.refused(NothingToUndo, book.undo)
        for _ in range(20000):
            book["a"] = table
        del book


class Model:
    """A book by the words of the document: each change copies all, and asks for all wishes."""

    def __init__(self):
        self.tables = {}
        self.wishes = []
        self.past = []

    def held(self):
        """What `held` tells of a book."""
        names = tuple(sorted(self.tables))
        return names, [self.tables[name] for name in names], tuple(self.wishes), len(self.past), len(names)

    def changed(self, tables, wishes):
        """Changes it, or returns the error."""
        for index, wish in enumerate(wishes):
            if not self.is_right(tables, wish):
                return Broken, index
        self.past.append((self.tables, self.wishes))
        self.tables, self.wishes = tables, wishes
        return None

    def is_right(self, tables, wish):
        """Whether the wish holds."""
        if len(wish) == 2:
            return holds(tables[wish[0]], wish[1])
        one, other = tables[wish[1]], tables[wish[2]]
        return one.kinds == other.kinds and alike(one, other)

    def put(self, name, table):
        """As a book's item."""
        return self.changed({**self.tables, name: table}, self.wishes)

    def remove(self, name):
        """As that of a book."""
        if name not in self.tables:
            return UnknownName, name
        for index, wish in enumerate(self.wishes):
            if name in (wish[1:] if len(wish) == 3 else wish[:1]):
                return InUse, index
        return self.changed({other: self.tables[other] for other in self.tables if other != name}, self.wishes)

    def wish(self, wish):
        """As that of a book."""
        for name in (wish[1:] if len(wish) == 3 else wish[:1]):
            if name not in self.tables:
                return UnknownName, name
        return self.changed(self.tables, self.wishes + [wish])

    def lift(self, index):
        """As that of a book."""
        if index not in range(len(self.wishes)):
            return InvalidIndex, index
        return self.changed(self.tables, [wish for at, wish in enumerate(self.wishes) if at != index])

    def undo(self):
        """As that of a book."""
        if not self.past:
            return NothingToUndo, None
        self.tables, self.wishes = self.past.pop()
        return None


def outcome(call, *values):
    """What the call returns, or the class of its error with its attribute."""
    try:
        return call(*values)
    except (Broken, InUse) as error:
        return type(error), error.index
    except (UnknownName, InvalidIndex) as error:
        return type(error), error.given
    except NothingToUndo as error:
        return type(error), None


def any_call(source, book, model):
    """The same call of the book and of the model, with its values."""
    word = source.choice(("put", "put", "put", "wish", "wish", "wish", "lift", "remove", "undo", "undo"))
    if word == "put":
        return book.__setitem__, model.put, (source.choice(NAMES), source.choice(TABLES))
    if word == "wish" and source.random() < 0.3:
        return book.wish, model.wish, (("alike", source.choice(NAMES), source.choice(NAMES)),)
    if word == "wish":
        return book.wish, model.wish, ((source.choice(NAMES), source.choice(WISHES)),)
    if word == "lift":
        return book.lift, model.lift, (source.randrange(-1, 4),)
    if word == "remove":
        return book.remove, model.remove, (source.choice(NAMES),)
    return book.undo, model.undo, ()


class LongRows(unittest.TestCase):
    def test_beside_the_model(self):
        for seed in range(25):
            source = random.Random(seed)
            book, model = Book(), Model()
            for _ in range(60):
                call, modelled, values = any_call(source, book, model)
                self.assertEqual(outcome(call, *values), modelled(*values), (seed, values))
                self.assertEqual(held(book), model.held(), (seed, values))


if __name__ == "__main__":
    unittest.main()
