"""Which forms the values have that callers pass: kinds, edits, rows, texts, lists, arrivals, wishes and names."""

from passedits.limits import LEAST_PLACE, MOST_OPTIONS, MOST_PLACE, MOST_SIGNS

KINDS = ("put", "out", "set")
KINDS_WITH_SIGN = ("put", "set")
RELATIONS = ("<", "=", ">")
SIGN_CONDITIONS = ("less", "same", "more")
RESULTS = ("keep", "up", "down", "stay")
PROMISES = ("puts", "outs", "kept", "sets")
DIGITS = "0123456789"
LONGEST_NAME = 8


def is_integer(value):
    """Whether the value is an integer other than True and False."""
    return isinstance(value, int) and not isinstance(value, bool)


def is_word(value, words):
    """Whether the value is one of these strings."""
    # Only strings are compared: an object of the caller's may say that it equals all others, or have no hash.
    return isinstance(value, str) and value in words


def is_place(value):
    """Whether the value can be the place of an edit."""
    return is_integer(value) and LEAST_PLACE <= value <= MOST_PLACE


def is_sign(value):
    """Whether the value is a sign."""
    return isinstance(value, str) and len(value) == 1 and "a" <= value <= "z"


def is_edit(value):
    """Whether the value is an edit."""
    if not isinstance(value, tuple) or len(value) == 0:
        return False
    if is_word(value[0], KINDS_WITH_SIGN):
        return len(value) == 3 and is_place(value[1]) and is_sign(value[2])
    if is_word(value[0], ("out",)):
        return len(value) == 2 and is_place(value[1])
    return is_word(value[0], ("stay",)) and len(value) == 1


def is_edit_of(value, kinds):
    """Whether the value is an edit of one of these kinds, or "stay"."""
    return is_edit(value) and (value[0] == "stay" or value[0] in kinds)


def are_kinds(value):
    """Whether the value is a tuple of kinds that a table can be for."""
    if not isinstance(value, tuple) or not all([is_word(kind, KINDS) for kind in value]):
        return False
    return len(value) > 0 and value == tuple([kind for kind in KINDS if kind in value])


def is_cell(value, kinds):
    """Whether the value is the triple of a cell of a table for these kinds."""
    if not isinstance(value, tuple) or len(value) != 3:
        return False
    mine, its, relation = value
    return is_word(mine, kinds) and is_word(its, kinds) and is_word(relation, RELATIONS)


def cell_of(row):
    """The triple of the cell that the row is for."""
    return tuple(row.split(" ")[:3])


def options_of(row):
    """The options of the row, each one as its word."""
    return tuple(row.split(" ")[3:])


def conditions_for(mine, its):
    """The conditions that a cell for these two kinds can have."""
    if mine in KINDS_WITH_SIGN and its in KINDS_WITH_SIGN:
        return ("first",) + SIGN_CONDITIONS
    return ("first",)


def results_for(mine, kinds):
    """The results that a cell for this kind can have in a table for these kinds."""
    if mine == "set" and "put" in kinds:
        return RESULTS + ("put",)
    return RESULTS


def is_row(value, kinds):
    """Whether the value is a row of a cell of a table for these kinds."""
    if not isinstance(value, str) or not is_cell(cell_of(value), kinds):
        return False
    mine, its, _ = cell_of(value)
    options = options_of(value)
    if len(options) == 0 or len(options) > MOST_OPTIONS:
        return False
    results = results_for(mine, kinds)
    tested = [condition + ":" + result for condition in conditions_for(mine, its) for result in results]
    return all([option in tested for option in options[:-1]]) and options[-1] in results


def first_wrong_row(rows, kinds):
    """The index of the first row that is not right by itself, or for a cell of one ahead of it; None if all are."""
    cells = set()
    for index, row in enumerate(rows):
        if not is_row(row, kinds) or cell_of(row) in cells:
            return index
        cells.add(cell_of(row))
    return None


def kinds_and_rows(text):
    """The words behind the first one of the text's first line, and the lines behind that line."""
    lines = text.split("\n")
    return tuple(lines[0].split(" ")[1:]), tuple(lines[1:])


def is_table_text(value):
    """Whether the value is the text of a table."""
    if not isinstance(value, str) or not value.startswith("kinds "):
        return False
    kinds, rows = kinds_and_rows(value)
    return are_kinds(kinds) and first_wrong_row(rows, kinds) is None


def is_list(value):
    """Whether the value is a list of no more signs than callers pass."""
    return isinstance(value, str) and len(value) <= MOST_SIGNS and all([is_sign(sign) for sign in value])


def is_arrival(value, many):
    """Whether the value is a tuple with each index of so many edits once."""
    if not isinstance(value, tuple) or not all([is_integer(index) for index in value]):
        return False
    return sorted(value) == list(range(many))


def is_many(value):
    """Whether the value is a number of sites that is asked about."""
    return is_integer(value) and value in (2, 3)


def is_promise(value):
    """Whether the value is a promise of a table."""
    return is_word(value, PROMISES)


def is_wish(value):
    """Whether the value is a wish for a table."""
    if not isinstance(value, tuple) or len(value) == 0:
        return False
    if is_word(value[0], ("meets",)):
        return len(value) == 2 and is_many(value[1])
    if is_word(value[0], ("keeps",)):
        return len(value) == 3 and is_promise(value[1]) and is_many(value[2])
    return is_word(value[0], ("sure",)) and len(value) == 1


def is_name(value):
    """Whether the value is a name."""
    if not isinstance(value, str) or len(value) == 0 or len(value) > LONGEST_NAME:
        return False
    return is_sign(value[0]) and all([is_sign(sign) or sign in DIGITS for sign in value])


def is_wish_for_book(value):
    """Whether the value is a wish for a book."""
    if not isinstance(value, tuple):
        return False
    if len(value) == 2:
        return is_name(value[0]) and is_wish(value[1])
    return len(value) == 3 and is_word(value[0], ("alike",)) and is_name(value[1]) and is_name(value[2])
