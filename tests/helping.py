"""What several tests share: odd and stubborn values, all cells, and a way to ask for an error."""

import itertools
import unittest

from passedits.errors import InvalidText
from passedits.tables import Table

ALL_KINDS = (
    ("put",), ("out",), ("set",),
    ("put", "out"), ("put", "set"), ("out", "set"),
    ("put", "out", "set"),
)
RELATIONS = ("<", "=", ">")

PLAIN_TEXT = "\n".join([
    "kinds put out",
    "put put > up",
    "put put = first:keep up",
    "put out > down",
    "out put > up",
    "out put = up",
    "out out > down",
    "out out = stay",
])


def plain():
    """The table of the document's examples."""
    return Table.read(PLAIN_TEXT)


def cells(kinds):
    """All triples of a table for these kinds."""
    return list(itertools.product(kinds, kinds, RELATIONS))


def conditions(mine, its):
    """The conditions of the document for these two kinds."""
    return ["first"] if "out" in (mine, its) else ["first", "less", "same", "more"]


def results(mine, kinds):
    """The results of the document for this kind."""
    return ["keep", "up", "down", "stay"] + (["put"] if mine == "set" and "put" in kinds else [])


def nested(depth):
    """An empty tuple in so many others."""
    value = ()
    for _ in range(depth):
        value = (value,)
    return value


def odd_values():
    """Values of many sorts, none of them a tuple of kinds, a row, an edit, a text or a key of a table."""
    return [
        None, True, False, 0, 1, -1, 2, 3, 10 ** 39, -10 ** 39,
        "", " ", "\n", "a", "x", "kinds", "kinds ", "put", "put put", "put put =", "stay", "None", "first:keep",
        b"", b"put", b"kinds put", b"put put = keep", bytearray(b"put"),
        (), [], {}, set(), frozenset(), range(0), range(3), iter(()), slice(None), slice(1, 2), Ellipsis,
        (None,), (True,), (0,), ((),), ([],), ({},), (set(),), (b"put",), ("",), ("keep",),
        ["put"], ["put", "out"], {"put": 1}, {"put"}, frozenset(["put"]), ["put", "put", "="], ["stay"], [["put"]],
        ["out", 1], ["put", 1, "x"], ("put",) * 40, (("put",),), (("put", "put", "="),), (("stay",),),
        nested(9), object(), object, int, tuple, len, Table, Table(("put",)), Table(("put", "out", "set")),
        (Table(("put",)),), InvalidText, InvalidText("put"), ValueError("put"), lambda: "put",
    ]


class Everything:
    """Says that it equals all values, and has no hash."""

    __hash__ = None

    def __eq__(self, other):
        return True

    def __ne__(self, other):
        return False


class Nothing:
    """Can be asked for nothing at all."""

    def fail(self, *values):
        raise RuntimeError("asked")

    __eq__ = __ne__ = __lt__ = __le__ = __gt__ = __ge__ = __hash__ = __bool__ = __len__ = fail
    __iter__ = __getitem__ = __contains__ = __call__ = __int__ = __index__ = __str__ = __repr__ = fail


def stubborn_values():
    """Values that say of themselves what is not so, or nothing."""
    return [Everything(), Nothing()]


class RefusingCase(unittest.TestCase):
    """A test case that can ask for an error with its attribute."""

    def refused(self, error, call, *values, **named):
        """The error of just this class that the call raises."""
        with self.assertRaises(error) as caught:
            call(*values, **named)
        self.assertIs(type(caught.exception), error)
        return caught.exception

    def refused_given(self, error, given, call, *values, **named):
        """Asks for the error with the very value as `given`."""
        self.assertIs(self.refused(error, call, *values, **named).given, given)

    def refused_index(self, error, index, call, *values, **named):
        """Asks for the error with this `index`."""
        found = self.refused(error, call, *values, **named).index
        self.assertEqual(found, index)
        self.assertIs(type(found), type(index))
