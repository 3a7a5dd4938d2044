"""Tables: what an edit becomes behind another one."""

from passedits.errors import InvalidChange, InvalidEdit, InvalidFirst, InvalidKinds, InvalidRows, InvalidText
from passedits.errors import NotATable, UnknownName
from passedits.forms import RELATIONS, SIGN_CONDITIONS
from passedits.forms import are_kinds, is_cell, is_edit_of, is_row, is_table_text
from passedits.forms import cell_of, first_wrong_row, kinds_and_rows, options_of

STEPS = {"keep": 0, "up": 1, "down": -1}


class Table:
    """What an edit of these kinds becomes behind another one, by cells; it never changes."""

    def __init__(self, kinds, rows=()):
        if not are_kinds(kinds):
            raise InvalidKinds(kinds)
        if not isinstance(rows, tuple):
            raise InvalidRows(None)
        wrong = first_wrong_row(rows, kinds)
        if wrong is not None:
            raise InvalidRows(wrong)
        self._kinds = kinds
        self._rows = rows
        self._cells = {cell_of(row): options_of(row) for row in rows}

    @classmethod
    def read(cls, text):
        """The table with this text."""
        if not is_table_text(text):
            raise InvalidText(text)
        kinds, rows = kinds_and_rows(text)
        return cls(kinds, rows)

    @property
    def kinds(self):
        """The kinds that the table is for."""
        return self._kinds

    @property
    def rows(self):
        """The rows of the written cells."""
        return self._rows

    def passed(self, edit, past, first):
        """The edit past the other one; `first` tells whether its site is the lesser one."""
        if not is_edit_of(edit, self._kinds):
            raise InvalidEdit(edit)
        if not is_edit_of(past, self._kinds):
            raise InvalidEdit(past)
        # 1 and 0 equal True and False, but do not stand for them.
        if first is not True and first is not False:
            raise InvalidFirst(first)
        return turned(self, edit, past, first)

    def changed(self, change):
        """The table with this row in the place of that of its cell, or behind the others."""
        if not is_row(change, self._kinds):
            raise InvalidChange(change)
        cell = cell_of(change)
        if cell not in self._cells:
            return Table(self._kinds, self._rows + (change,))
        return Table(self._kinds, tuple([change if cell_of(row) == cell else row for row in self._rows]))

    def __getitem__(self, at):
        if not is_cell(at, self._kinds):
            raise UnknownName(at)
        if at in self._cells:
            return self._cells[at]
        return ("keep",)

    # Without it Python would count up indexes of a table that has none.
    def __iter__(self):
        raise TypeError("a table is not iterated over")

    def __len__(self):
        return len(self._rows)

    # Without it a table without rows would be false.
    def __bool__(self):
        return True

    def __str__(self):
        return "\n".join(["kinds " + " ".join(self._kinds), *self._rows])

    def __eq__(self, other):
        return isinstance(other, Table) and self._kinds == other._kinds and self._rows == other._rows


def ask_for_table(value):
    """Raises the error for what is no table."""
    if not isinstance(value, Table):
        raise NotATable(value)


def turned(table, edit, past, first):
    """The edit past the other one, both of the table's kinds, at places that may lie beyond those of edits."""
    if edit[0] == "stay" or past[0] == "stay":
        return edit
    options = table[edit[0], past[0], compared(edit[1], past[1], RELATIONS)]
    return formed(edit, chosen(options, conditions_met(edit, past, first)))


def compared(mine, its, words):
    """The first of the three words if mine is less than its, the second one if they are equal, else the last one."""
    if mine < its:
        return words[0]
    if mine == its:
        return words[1]
    return words[2]


def conditions_met(edit, past, first):
    """The conditions that hold for the edit beside the other one."""
    met = ("first",) if first else ()
    # An out has no sign to compare.
    if len(edit) == 3 and len(past) == 3:
        return met + (compared(edit[2], past[2], SIGN_CONDITIONS),)
    return met


def chosen(options, met):
    """The result of the first option whose condition is among those met, or of the last one."""
    for option in options[:-1]:
        condition, _, result = option.partition(":")
        if condition in met:
            return result
    return options[-1]


def formed(edit, result):
    """The edit that the result makes of this one."""
    if result == "stay":
        return ("stay",)
    if result == "put":
        return ("put", edit[1], edit[2])
    return (edit[0], edit[1] + STEPS[result]) + edit[2:]
