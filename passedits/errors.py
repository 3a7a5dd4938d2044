"""The errors of this package, each under one of three base classes.

The messages say nothing of the value that was passed: it can be anything, also what cannot be written out.
"""


class BadValue(ValueError):
    """A value that is not of the form that is asked for."""


class InvalidText(BadValue):
    """What is no text of a table, or no list."""

    def __init__(self, given):
        super().__init__("no text of the form that is asked for")
        self.given = given


class InvalidName(BadValue):
    """What is no name."""

    def __init__(self, given):
        super().__init__("no name")
        self.given = given


class InvalidNumber(BadValue):
    """What is none of the numbers that are asked for."""

    def __init__(self, given):
        super().__init__("none of the numbers that are asked for")
        self.given = given


class InvalidKinds(BadValue):
    """What are no kinds of a table."""

    def __init__(self, given):
        super().__init__("no tuple of one or more of put, out and set, in this order")
        self.given = given


class InvalidEdit(BadValue):
    """What is no edit, or none of the kinds of a table."""

    def __init__(self, given):
        super().__init__("no edit of the kinds that are asked for")
        self.given = given


class InvalidFirst(BadValue):
    """What is neither True nor False."""

    def __init__(self, given):
        super().__init__("neither True nor False")
        self.given = given


class InvalidArrival(BadValue):
    """What is no arrival of the edits."""

    def __init__(self, given):
        super().__init__("no tuple with each index of the edits once")
        self.given = given


class InvalidPromise(BadValue):
    """What is no promise of a table."""

    def __init__(self, given):
        super().__init__("no promise")
        self.given = given


class InvalidChange(BadValue):
    """What is no row of a cell of the table."""

    def __init__(self, given):
        super().__init__("no row of a cell of the table")
        self.given = given


class InvalidWish(BadValue):
    """What is no wish."""

    def __init__(self, given):
        super().__init__("no wish of the form that is asked for")
        self.given = given


class InvalidIndex(BadValue):
    """What is no index of a wish."""

    def __init__(self, given):
        super().__init__("no index of a wish")
        self.given = given


class NotATable(BadValue):
    """What is no table."""

    def __init__(self, given):
        super().__init__("no table")
        self.given = given


class OtherKinds(BadValue):
    """A table for other kinds than the one that it stands beside."""

    def __init__(self, given):
        super().__init__("a table for other kinds")
        self.given = given


class InvalidRows(BadValue):
    """No rows of a table, or one among them that is not right."""

    def __init__(self, index):
        super().__init__("a row that is not right, or no tuple of rows")
        self.index = index


class InvalidEdits(BadValue):
    """No edits made at one time, or one among them that is not right."""

    def __init__(self, index):
        super().__init__("an edit that is not right, or no tuple of edits")
        self.index = index


class InvalidChanges(BadValue):
    """No different changes of a table, or one among them that is not right."""

    def __init__(self, index):
        super().__init__("a change that is not right, or no tuple of changes")
        self.index = index


class InvalidWishes(BadValue):
    """No wishes for a table, or one among them that is not right."""

    def __init__(self, index):
        super().__init__("a wish that is not right, or no tuple of wishes")
        self.index = index


class BadName(LookupError):
    """A name that is not there, or cannot go."""


class UnknownName(BadName):
    """A name or a key under which there is nothing."""

    def __init__(self, given):
        super().__init__("there is nothing under this name")
        self.given = given


class InUse(BadName):
    """A name that a wish needs."""

    def __init__(self, index):
        super().__init__("a wish needs this name")
        self.index = index


class NoAnswer(ArithmeticError):
    """What cannot be done."""


class CannotDo(NoAnswer):
    """An edit that cannot be done on the list."""

    def __init__(self, given):
        super().__init__("the edit cannot be done on the list")
        self.given = given


class NothingToUndo(NoAnswer):
    """No change that could be taken back."""

    def __init__(self):
        super().__init__()


class Broken(NoAnswer):
    """A wish that would not hold then."""

    def __init__(self, index):
        super().__init__("a wish would not hold then")
        self.index = index
