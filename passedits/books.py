"""Books: tables under names, with wishes that hold behind each change."""

from passedits.errors import Broken, InUse, InvalidIndex, InvalidName, InvalidWish, NothingToUndo, UnknownName
from passedits.forms import is_integer, is_name, is_wish_for_book
from passedits.meeting import alike
from passedits.mends import holds
from passedits.tables import ask_for_table


class State:
    """What a book holds behind a change, and the state before that; it never changes, so it can be taken up again."""

    def __init__(self, tables, wanted, before):
        self.tables = tables
        self.wanted = wanted
        self.before = before
        self.many = 0 if before is None else before.many + 1


class Beginning:
    """The state of a book at the beginning of a trial, and the beginning around it of the same object."""

    def __init__(self, state, around):
        self.state = state
        self.around = around


class Trial:
    """For a `with` statement: if its rows end with an exception, the book is then as it was when they began."""

    def __init__(self, book):
        self._book = book
        self._begun = None

    def __enter__(self):
        self._begun = Beginning(self._book._state, self._begun)
        return self._book

    def __exit__(self, kind, value, trace):
        book = self._book
        if kind is not None:
            book._state = self._begun.state
        self._begun = self._begun.around


class Book:
    """Tables under names, and a row of wishes that hold behind each change."""

    def __init__(self):
        # No other book has this very object.
        self._start = State({}, (), None)
        self._state = self._start

    def __setitem__(self, name, table):
        if not is_name(name):
            raise InvalidName(name)
        ask_for_table(table)
        tables = {**self._state.tables, name: table}
        wanted = self._state.wanted
        # The wishes that do not need this name hold as before.
        for index, wish in enumerate(wanted):
            if name in names_in(wish) and not is_fulfilled(tables, wish):
                raise Broken(index)
        self._state = State(tables, wanted, self._state)

    def __getitem__(self, name):
        if name not in self:
            raise UnknownName(name)
        return self._state.tables[name]

    def __contains__(self, value):
        # What is no name may have no hash, or say that it equals all others.
        return is_name(value) and value in self._state.tables

    # Without it Python would count up indexes, of which a book has none.
    def __iter__(self):
        raise TypeError("a book is not iterated over")

    def __len__(self):
        return len(self._state.tables)

    # Without it a book without tables would be false.
    def __bool__(self):
        return True

    # Without it an object of the caller's could say that it equals the book.
    def __eq__(self, other):
        return isinstance(other, Book) and self._start == other._start

    @property
    def names(self):
        """The names of the tables, ascending."""
        return tuple(sorted(self._state.tables))

    @property
    def wishes(self):
        """The wishes, in their order."""
        return self._state.wanted

    @property
    def changes(self):
        """How many changes can be taken back."""
        return self._state.many

    def remove(self, name):
        """Takes away the table under this name."""
        if name not in self:
            raise UnknownName(name)
        for index, wish in enumerate(self._state.wanted):
            if name in names_in(wish):
                raise InUse(index)
        tables = {other: table for other, table in self._state.tables.items() if other != name}
        self._state = State(tables, self._state.wanted, self._state)

    def wish(self, wish):
        """Puts a wish behind the others."""
        if not is_wish_for_book(wish):
            raise InvalidWish(wish)
        for name in names_in(wish):
            if name not in self:
                raise UnknownName(name)
        tables = self._state.tables
        wanted = self._state.wanted
        if not is_fulfilled(tables, wish):
            raise Broken(len(wanted))
        self._state = State(tables, wanted + (wish,), self._state)

    def lift(self, index):
        """Takes away the wish with this index."""
        wanted = self._state.wanted
        if not is_integer(index) or index < 0 or index >= len(wanted):
            raise InvalidIndex(index)
        self._state = State(self._state.tables, wanted[:index] + wanted[index + 1:], self._state)

    def undo(self):
        """Takes back the last change that is not taken back yet."""
        if self._state.before is None:
            raise NothingToUndo()
        self._state = self._state.before

    def trial(self):
        """For a `with` statement that gives the book, and takes back all if its rows end with an exception."""
        return Trial(self)

    def tried(self, action):
        """What the function returns for the book, called within a trial."""
        with self.trial() as book:
            return action(book)


def names_in(wish):
    """The names that the wish for a book needs: A and B, or A alone."""
    if len(wish) == 3:
        return wish[1:]
    return wish[:1]


def is_fulfilled(tables, wish):
    """Whether the wish for a book holds for these tables, in which its names are."""
    if len(wish) == 2:
        return holds(tables[wish[0]], wish[1])
    one = tables[wish[1]]
    other = tables[wish[2]]
    return one.kinds == other.kinds and alike(one, other)
