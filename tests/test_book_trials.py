"""Books: trials ([3], [4], [15])."""

import contextlib
import unittest

from helping import RefusingCase, odd_values, plain
from passedits.books import Book
from passedits.errors import Broken, NothingToUndo, UnknownName
from passedits.tables import Table
from playing import good
from test_book_tables import held, wished

MEETS = ("meets", 2)


class Stop(Exception):
    """What ends the rows of a trial."""


class Going(BaseException):
    """An exception that is no error."""


def change(book):
    """One change of each sort."""
    book["new"] = good(("put",))
    book["spare"] = plain()
    book.wish(("new", ("sure",)))
    book.lift(0)
    book.remove("plain")


class TrialCase(RefusingCase):
    def ends(self, error, book, rows, trial=None):
        """Asks that a trial with these rows passes just this exception on, and leaves the book as it was."""
        before = held(book)
        with self.assertRaises(type(error)) as caught:
            with book.trial() if trial is None else trial:
                rows(book)
                raise error
        self.assertIs(caught.exception, error)
        self.assertEqual(held(book), before)


class Trials(TrialCase):
    def test_as_gives_the_book(self):
        book = wished()
        with book.trial() as given:
            self.assertIs(given, book)

    def test_rows_that_end_well(self):
        book, other = wished(), wished()
        with book.trial():
            change(book)
        change(other)
        self.assertEqual(held(book), held(other))
        self.assertEqual(book.changes, 12)
        book.undo()
        self.assertIn("plain", book)

    def test_rows_without_a_change(self):
        book = wished()
        before = held(book)
        with book.trial():
            pass
        self.assertEqual(held(book), before)
        self.ends(Stop(), book, lambda _: None)

    def test_rows_that_end_with_an_exception(self):
        for error in (Stop("why"), Going(), KeyError("x"), KeyboardInterrupt(), GeneratorExit(), Broken(3),
                      StopIteration(), AssertionError(), ZeroDivisionError(), SystemExit(1)):
            for book in (wished(), Book()):
                self.ends(error, book, lambda made: made.__setitem__("new", plain()))
            self.ends(error, wished(), change)

    def test_an_error_of_the_book(self):
        book = wished()
        before = held(book)
        for error, rows in (
            (Broken, lambda made: made.wish(("plain", ("meets", 3)))),
            (UnknownName, lambda made: made["none"]),
            (UnknownName, lambda made: made.remove("none")),
        ):
            with self.assertRaises(error):
                with book.trial():
                    book["new"] = plain()
                    rows(book)
            self.assertEqual(held(book), before)

    def test_an_error_that_is_caught_within(self):
        book = wished()
        with book.trial():
            book["new"] = plain()
            with self.assertRaises(Broken):
                book.wish(("new", ("meets", 3)))
        self.assertEqual([book.changes, "new" in book], [8, True])

    def test_rows_that_are_left_otherwise(self):
        def returned(book):
            with book.trial():
                book["new"] = plain()
                return 7

        book = Book()
        self.assertEqual(returned(book), 7)
        for _ in range(3):
            with book.trial():
                book["more"] = plain()
                break
        for _ in range(2):
            with book.trial():
                book["most"] = plain()
                continue
        self.assertEqual([book.names, book.changes], [("more", "most", "new"), 4])

    def test_the_beginning_is_that_of_the_rows(self):
        book = Book()
        trial = book.trial()
        book["a"] = plain()
        self.ends(Stop(), book, lambda made: made.remove("a"), trial)
        self.assertEqual([book.names, book.changes], [("a",), 1])

    def test_a_trial_that_is_not_used(self):
        book = wished()
        before = held(book)
        book.trial()
        self.assertEqual(held(book), before)

    def test_changes_behind_a_trial(self):
        book = wished()
        self.ends(Stop(), book, change)
        book["new"] = Table(("out",))
        self.assertEqual([book.changes, book["new"]], [8, Table(("out",))])
        for _ in range(8):
            book.undo()
        self.refused(NothingToUndo, book.undo)

    def test_wishes_that_were_lifted_hold_again(self):
        book = wished()

        def rows(made):
            made.lift(0)
            made["plain"] = Table(("put",))

        self.ends(Stop(), book, rows)
        self.refused_index(Broken, 0, book.__setitem__, "plain", Table(("put",)))

    def test_another_book_stays_as_it_is(self):
        one, other = Book(), Book()
        with self.assertRaises(Stop):
            with one.trial():
                one["a"] = plain()
                other["b"] = plain()
                raise Stop
        self.assertEqual([one.names, other.names], [(), ("b",)])


class Undoing(TrialCase):
    def test_within_a_trial(self):
        book = wished()
        with book.trial():
            book["new"] = plain()
            book["more"] = plain()
            book.undo()
        self.assertEqual([book.changes, "new" in book, "more" in book], [8, True, False])

    def test_back_behind_the_beginning(self):
        def rows(book):
            book["new"] = plain()
            for _ in range(4):
                book.undo()
            book["spare"] = plain()
            book["last"] = plain()

        book = wished()
        self.ends(Stop(), book, rows)
        self.assertEqual([len(book.wishes), book.changes], [3, 7])
        with book.trial():
            rows(book)
        self.assertEqual([book.names, book.wishes, book.changes], [("last", "other", "plain", "sets", "spare"), (), 6])

    def test_back_to_the_beginning_of_the_book(self):
        def rows(book):
            while book.changes:
                book.undo()
            self.assertEqual(held(book), held(Book()))
            self.refused(NothingToUndo, book.undo)

        book = wished()
        self.ends(Stop(), book, rows)
        states = []
        for _ in range(7):
            states.append(held(book))
            book.undo()
        again = wished()
        for state in states:
            self.assertEqual(held(again), state)
            again.undo()
        book = wished()
        with book.trial():
            rows(book)
        self.assertEqual(held(book), held(Book()))

    def test_what_a_trial_did_can_be_taken_back(self):
        book = wished()
        before = held(book)
        with book.trial():
            change(book)
        for _ in range(5):
            book.undo()
        self.assertEqual(held(book), before)


class Within(TrialCase):
    def both(self, book, outer, inner):
        """A trial in a trial, the inner one of which ends with an exception."""
        with outer:
            book["one"] = plain()
            self.ends(Stop(), book, change, inner)
            book["two"] = plain()

    def test_the_inner_one_ends_with_an_exception(self):
        book = wished()
        for one_object in (False, True):
            outer = book.trial()
            self.both(book, outer, outer if one_object else book.trial())
            self.assertEqual([book.changes, "one" in book, "two" in book, "new" in book], [9, True, True, False])
            book.remove("one")
            book.remove("two")
            for _ in range(4):
                book.undo()

    def test_the_outer_one_ends_with_an_exception(self):
        for one_object in (False, True):
            book = wished()
            outer = book.trial()

            def rows(made):
                with outer if one_object else made.trial():
                    change(made)
                made["last"] = plain()

            self.ends(Stop(), book, rows, outer)

    def test_both_end_with_an_exception(self):
        for one_object in (False, True):
            book = wished()
            outer = book.trial()

            def rows(made):
                made["one"] = plain()
                self.ends(Stop(), made, change, outer if one_object else None)
                made["two"] = plain()

            self.ends(Going(), book, rows, outer)

    def test_one_exception_goes_through_both(self):
        for one_object in (False, True):
            book = wished()
            trial = book.trial()
            before = held(book)
            with self.assertRaises(Stop):
                with trial:
                    book["one"] = plain()
                    with trial if one_object else book.trial():
                        book.undo()
                        book.undo()
                        raise Stop
            self.assertEqual(held(book), before)

    def test_five_deep_with_one_object(self):
        book = Book()
        trial = book.trial()

        def rows(depth):
            book[f"a{depth}"] = plain()
            before = held(book)
            if depth < 5:
                with contextlib.suppress(Stop):
                    with trial as given:
                        self.assertIs(given, book)
                        rows(depth + 1)
                        if depth % 2:
                            raise Stop
                if depth % 2:
                    self.assertEqual(held(book), before)

        rows(0)
        self.assertEqual([book.names, book.changes], [("a0", "a1"), 2])

    def test_one_object_again_and_again(self):
        book = Book()
        trial = book.trial()
        for many in range(1, 4):
            self.ends(Stop(), book, lambda made: made.__setitem__("x", plain()), trial)
            with trial:
                book[f"a{many}"] = plain()
            self.assertEqual(book.changes, many)
        self.assertEqual(book.names, ("a1", "a2", "a3"))

    def test_one_object_behind_an_exception_within(self):
        book = Book()
        trial = book.trial()
        with trial:
            book["a"] = plain()
            self.ends(Stop(), book, lambda made: made.remove("a"), trial)
            self.ends(Stop(), book, lambda made: made.undo(), trial)
            with trial:
                book["b"] = plain()
        self.assertEqual([book.names, book.changes], [("a", "b"), 2])
        self.ends(Stop(), book, lambda made: made.undo(), trial)

    def test_trials_that_end_in_another_order(self):
        def rows(book, name):
            with book.trial():
                book[name] = plain()
                yield
                raise Stop

        book = Book()
        one, other = rows(book, "a"), rows(book, "b")
        next(one)
        next(other)
        with self.assertRaises(Stop):
            next(one)
        self.assertEqual(held(book), held(Book()))
        with self.assertRaises(Stop):
            next(other)
        self.assertEqual([book.names, book.changes], [("a",), 1])


class Tried(TrialCase):
    def test_what_it_returns(self):
        for value in odd_values():
            book = Book()
            self.assertIs(book.tried(lambda _, found=value: found), value)
        book = wished()
        self.assertIs(book.tried(change), None)
        self.assertEqual(book.changes, 12)

    def test_what_it_passes(self):
        book = wished()
        passed = []
        self.assertIs(book.tried(lambda *values, **named: passed.append((values, named))), None)
        self.assertEqual(len(passed), 1)
        self.assertEqual([len(passed[0][0]), passed[0][1]], [1, {}])
        self.assertIs(passed[0][0][0], book)
        self.assertIs(book.tried(action=lambda given: given), book)

    def test_what_it_raises(self):
        for error in (Stop(), Going(), KeyError(1), Broken(2)):
            def action(book, raised=error):
                change(book)
                book.undo()
                raise raised

            book = wished()
            before = held(book)
            with self.assertRaises(type(error)) as caught:
                book.tried(action)
            self.assertIs(caught.exception, error)
            self.assertEqual(held(book), before)

    def test_an_error_of_the_book(self):
        book = wished()
        before = held(book)

        def action(made):
            made["new"] = plain()
            made["plain"] = Table(("put",))

        self.refused_index(Broken, 0, book.tried, action)
        self.assertEqual(held(book), before)

    def test_tried_within_tried(self):
        book = Book()

        def inner(made):
            made["b"] = plain()
            raise Stop

        def outer(made):
            made["a"] = plain()
            with contextlib.suppress(Stop):
                made.tried(inner)
            made["c"] = plain()
            return made.changes

        self.assertEqual([book.tried(outer), book.names, book.changes], [2, ("a", "c"), 2])

    def test_undo_behind_the_beginning(self):
        book = wished()
        before = held(book)

        def action(made):
            made.undo()
            made.undo()
            made.remove("spare")
            raise Stop

        with self.assertRaises(Stop):
            book.tried(action)
        self.assertEqual(held(book), before)
        self.assertIs(book.tried(lambda made: made.undo()), None)
        self.assertEqual(book.changes, 6)


if __name__ == "__main__":
    unittest.main()
