"""Judges claims and certificates by the words of the document, and writes papers that are almost right."""

from helping import nested, odd_values, stubborn_values
from passedits.errors import InvalidText, InvalidWish
from passedits.meeting import meets
from passedits.mends import holds
from passedits.tables import Table
from playing import PROMISES, Player, all_different, can_be_done, is_broken

KINDS = ("put", "out", "set")


def is_tuple(value, many):
    """Whether the value is a tuple with so many elements."""
    return type(value) is tuple and len(value) == many


def is_sign(value):
    """Whether the value is a sign."""
    return type(value) is str and len(value) == 1 and value in "abcdefghijklmnopqrstuvwxyz"


def is_list(value):
    """Whether the value is a list of up to 1000 signs."""
    return type(value) is str and len(value) <= 1000 and all(is_sign(sign) for sign in value)


def is_edit(value, kinds):
    """Whether the value is an edit of these kinds, or "stay"."""
    if type(value) is not tuple or not value or type(value[0]) is not str:
        return False
    if value[0] == "stay":
        return len(value) == 1
    if value[0] not in kinds or len(value) != (2 if value[0] == "out" else 3):
        return False
    return type(value[1]) is int and -9 <= value[1] <= 10 ** 12 and all(is_sign(sign) for sign in value[2:])


def is_row_of(value, many):
    """Whether the value is a tuple with each index of so many edits once."""
    return is_tuple(value, many) and all(type(index) is int for index in value) and set(value) == set(range(many))


def is_many(value):
    """Whether the value is 2 or 3."""
    return type(value) is int and value in (2, 3)


def read(text):
    """The table with this text, None for what is no text of one."""
    try:
        return Table.read(text)
    except InvalidText:
        return None


def are_made(table, text, edits, many):
    """Whether these are edits made at one time by so many sites on the list."""
    return is_list(text) and is_tuple(edits, many) and all(is_edit(edit, table.kinds) for edit in edits) and \
        can_be_done(table.kinds, text, edits)


def judged_holds(told, certificate):
    """A claim "holds"."""
    table = read(told[0]) if is_tuple(told, 2) else None
    if table is None or not is_tuple(certificate, 0):
        return False
    try:
        return holds(table, told[1])
    except InvalidWish:
        return False


def judged_parts(told, certificate):
    """A claim "parts"."""
    table = read(told[0]) if is_tuple(told, 2) else None
    if table is None or not is_many(told[1]) or not is_tuple(certificate, 4):
        return False
    text, edits, *rows = certificate
    if not are_made(table, text, edits, told[1]) or not all(is_row_of(row, told[1]) for row in rows):
        return False
    ends = [Player(table).end(text, edits, row) for row in rows]
    return None in ends or ends[0] != ends[1]


def judged_breaks(told, certificate):
    """A claim "breaks"."""
    table = read(told[0]) if is_tuple(told, 3) else None
    if table is None or not is_many(told[2]) or not is_tuple(certificate, 3):
        return False
    text, edits, row = certificate
    if type(told[1]) is not str or told[1] not in PROMISES or not are_made(table, text, edits, told[2]):
        return False
    if not all_different(text, edits) or not is_row_of(row, told[2]):
        return False
    return is_broken(told[1], text, edits, Player(table).end(text, edits, row))


def judged_unsure(told, certificate):
    """A claim "unsure"."""
    table = read(told[0]) if is_tuple(told, 1) else None
    if table is None or not is_tuple(certificate, 3):
        return False
    text, edits, roles = certificate
    if not are_made(table, text, edits, 3) or not is_row_of(roles, 3):
        return False
    return Player(table).is_unsure(edits, roles) and meets(table, 2)


def judged_differ(told, certificate):
    """A claim "differ"."""
    tables = [read(text) for text in told] if is_tuple(told, 2) else [None]
    if None in tables or tables[0].kinds != tables[1].kinds or not is_tuple(certificate, 3):
        return False
    edit, past, first = certificate
    if not is_edit(edit, tables[0].kinds) or not is_edit(past, tables[0].kinds) or type(first) is not bool:
        return False
    return tables[0].passed(edit, past, first) != tables[1].passed(edit, past, first)


JUDGES = {
    "holds": judged_holds, "parts": judged_parts, "breaks": judged_breaks, "unsure": judged_unsure,
    "differ": judged_differ,
}


def judged(claim, certificate):
    """Whether the checker is to accept the certificate for the claim."""
    if type(claim) is not tuple or not claim or type(claim[0]) is not str or claim[0] not in JUDGES:
        return False
    return JUDGES[claim[0]](claim[1:], certificate)


def others_for(value):
    """Values that can stand in the place of this one."""
    others = odd_values() + stubborn_values() + [nested(10)]
    if type(value) is int:
        others += [value + 1, value - 1, -value, bool(value), str(value), (value,), 4, 6, 10 ** 12, 10 ** 12 + 1, -9]
    if type(value) is bool:
        others += [int(value), not value, str(value)]
    if type(value) is str:
        others += [value + "a", value + " ", value + "\n", " " + value, value[1:], value[:-1], value.upper(), [value],
                   value.encode(), (value,), tuple(value), list(value), "b", "y", "z", "abc", "A", "puts", "outs",
                   "sets", "kept", "holds", "parts", "breaks", "unsure", "differ", "meets", "sure", "keeps"]
    if type(value) is tuple:
        others += [list(value), value + (0,), value + ((),), value + value[-1:], value[:-1], value[1:], value[::-1],
                   (value,), value * 2, {}, dict.fromkeys(range(len(value))), None]
    return others


def variants(value):
    """What comes of the value if it, or one part of it, is another one."""
    yield from others_for(value)
    if type(value) is tuple:
        for index, part in enumerate(value):
            for other in variants(part):
                yield value[:index] + (other,) + value[index + 1:]
