"""Plays edits made at one time by the words of the document, and tries all of them on short lists."""

import itertools

from passedits.tables import Table

LETTERS = "abcdefghijklmnopqrstuvw"
PROMISES = ("puts", "outs", "kept", "sets")

FAR_ROWS = {
    ("put", "put", ">"): "up", ("out", "put", ">"): "up", ("set", "put", ">"): "up",
    ("put", "out", ">"): "down", ("out", "out", ">"): "down", ("set", "out", ">"): "down",
}
NEAR_ROWS = {
    ("put", "put", "="): "first:keep up", ("out", "put", "="): "up", ("set", "put", "="): "up",
    ("out", "out", "="): "stay", ("set", "out", "="): "stay", ("set", "set", "="): "first:keep stay",
}
GOOD_ROWS = {**FAR_ROWS, **NEAR_ROWS}


def good(kinds, changes=None):
    """A table for these kinds that meets for two sites, with other options (or none) for some of its cells."""
    rows = {cell: options for cell, options in GOOD_ROWS.items() if cell[0] in kinds and cell[1] in kinds}
    rows.update(changes or {})
    return Table(kinds, tuple(" ".join([*cell, options]) for cell, options in rows.items() if options))


def list_behind(text, edit):
    """The list behind the edit, None if it cannot be done."""
    if edit[0] == "stay":
        return text
    signs = list(text)
    place = edit[1]
    if not 0 <= place <= len(signs) - (edit[0] != "put"):
        return None
    if edit[0] == "put":
        signs.insert(place, edit[2])
    elif edit[0] == "out":
        signs.pop(place)
    else:
        signs[place] = edit[2]
    return "".join(signs)


def arrivals(many):
    """All arrivals of so many edits."""
    return list(itertools.permutations(range(many)))


class Player:
    """Plays edits with one table."""

    def __init__(self, table):
        self.table = table
        self.forms = {}

    def passed(self, edit, past, first):
        """What the table says, asked once."""
        key = (edit, past, first)
        if key not in self.forms:
            self.forms[key] = self.table.passed(edit, past, first)
        return self.forms[key]

    def end(self, text, edits, arrival):
        """The end of the arrival."""
        forms = list(edits)
        waiting = list(arrival)
        while waiting:
            site = waiting.pop(0)
            text = list_behind(text, forms[site])
            if text is None:
                return None
            for other in waiting:
                forms[other] = self.passed(forms[other], forms[site], other < site)
        return text

    def ends(self, text, edits):
        """The ends of all arrivals."""
        return [self.end(text, edits, arrival) for arrival in arrivals(len(edits))]

    def parts(self, text, edits):
        """Whether arrivals of these edits have unlike ends, or one has none."""
        ends = self.ends(text, edits)
        return None in ends or len(set(ends)) > 1

    def breaks(self, promise, text, edits):
        """Whether the promise is broken in an arrival of these edits."""
        return any(is_broken(promise, text, edits, end) for end in self.ends(text, edits))

    def is_unsure(self, edits, roles):
        """Whether the edits of the document's point [11] are unlike for these roles."""
        a, b, c = roles
        one = self.passed(edits[b], edits[a], b < a)
        other = self.passed(edits[a], edits[b], a < b)
        return self.passed(self.passed(edits[c], edits[a], c < a), one, c < b) != self.passed(
            self.passed(edits[c], edits[b], c < b), other, c < a
        )

    def shortest_parting(self, many, longest):
        """How long the shortest list is on which edits part; None if there is none up to the longest one."""
        for length in range(longest + 1):
            for edits in made_at_one_time(self.table.kinds, length, many):
                if self.parts(LETTERS[:length], edits):
                    return length
        return None

    def shortest_break(self, promise, many, longest):
        """How long the shortest list is on which the promise is broken; None if there is none up to the longest."""
        for length in range(longest + 1):
            for edits in made_at_one_time(self.table.kinds, length, many):
                if all_different(LETTERS[:length], edits) and self.breaks(promise, LETTERS[:length], edits):
                    return length
        return None

    def is_sure(self):
        """Whether the edits of the document's point [11] are never unlike on a list of four signs."""
        return not any(
            self.is_unsure(edits, roles)
            for edits in made_at_one_time(self.table.kinds, 4, 3) for roles in arrivals(3)
        )


def signs_of(edits):
    """The signs of the edits."""
    return [edit[2] for edit in edits if len(edit) == 3]


def all_different(text, edits):
    """Whether all signs of the list and of the edits are different."""
    signs = [*text, *signs_of(edits)]
    return len(set(signs)) == len(signs)


def can_be_done(kinds, text, edits):
    """Whether these are edits of the kinds that can all be done on the list."""
    return all(
        edit == ("stay",) or edit[0] in kinds and list_behind(text, edit) is not None for edit in edits
    )


def is_broken(promise, text, edits, end):
    """Whether the promise is broken in an arrival with this end, all signs being different."""
    if end is None:
        return True
    touched = {edit[1] for edit in edits if edit[0] in ("out", "set")}
    outs = {edit[1] for edit in edits if edit[0] == "out"}
    if promise == "puts":
        return any(edit[2] not in end for edit in edits if edit[0] == "put")
    if promise == "outs":
        return any(text[place] in end for place in outs)
    if promise == "kept":
        kept = [sign for place, sign in enumerate(text) if place not in touched]
        return [sign for sign in end if sign in kept] != kept
    for place in touched - outs:
        signs = [edit[2] for edit in edits if edit[0] == "set" and edit[1] == place]
        if len([sign for sign in end if sign in signs]) != 1 or text[place] in end:
            return True
    return False


def made_at_one_time(kinds, length, many):
    """All edits made at one time by so many sites on a list of this length, their signs in all orders."""
    shapes = [("stay",)]
    for kind in kinds:
        shapes += [(kind, place) for place in range(length + (kind == "put"))]
    for row in itertools.product(shapes, repeat=many):
        signed = [index for index, shape in enumerate(row) if shape[0] in ("put", "set")]
        for order in orders(len(signed)):
            edits = list(row)
            for index, sign in zip(signed, order):
                edits[index] = (*row[index], sign)
            yield tuple(edits)


def orders(many):
    """All ways in which so many signs stand to one another."""
    words = ["".join(word) for word in itertools.product("xyz", repeat=many)]
    return [word for word in words if set(word) == set("xyz"[:len(set(word))])]
