"""Whether tables meet, are sure, keep promises and turn alike, for all lists; and cases that show it if they do not."""

from passedits.errors import InvalidNumber, InvalidPromise, OtherKinds
from passedits.forms import KINDS_WITH_SIGN, SIGN_CONDITIONS, is_many, is_promise, options_of
from passedits.runs import list_behind
from passedits.tables import ask_for_table, turned

# Places that are neighbours are tried up to this distance; DOC.md [13] says that less than ten is enough, and four is.
# An edit has moved by at most one place when it is done as the second one, by at most two as the third one.
# - In one arrival: if neighbours are five apart or more, some sign of the list between them is touched by no edit, and
#   each edit is done on its own side of it. Without this sign the edits still stand to one another as they did, for
#   which three apart is enough, and the end is the same but for it. So four shows all ends that are None, and all
#   promises that are broken.
# - Two arrivals of two sites: from four apart on, both leave such a sign alone.
# - Arrivals of three sites, if the table meets for two: then it turns edits that are far from one another just as the
#   list moves under them, or two sites would not meet. So edits move against the list only by those near them, and
#   from four apart on there is a sign that all arrivals leave alone.
# - Arrivals of three sites, if it does not meet for two: a list of four signs or less shows this already, as one of
#   the three may do nothing; on a shorter list no places are further apart than four.
FARTHEST = 4
LONGEST = 2 * FARTHEST + 1

LIST_SIGNS = "abcdefghi"
# How the signs of no, one, two and three edits stand to one another; they are unlike those of lists.
DIFFERENT_SIGNS = (("",), ("x",), ("xy", "yx"), ("xyz", "xzy", "yxz", "yzx", "zxy", "zyx"))
SAME_SIGNS = ((), (), ("xx",), ("xxx", "xxy", "xyx", "yxx", "xyy", "yxy", "yyx"))

# How many signs an edit needs from its place on.
NEEDED = {"put": 0, "out": 1, "set": 1, "stay": 0}

# The indexes of the edits a, b and c of DOC.md [11]; with a and b exchanged, the same two edits are compared.
ROLES = ((0, 1, 2), (0, 2, 1), (1, 2, 0))
PLACES_BY_RELATION = ((0, 1), (0, 0), (1, 0))


class Turner:
    """Turns edits past one another with one table, and keeps what came of it, as the same edits come again often."""

    def __init__(self, table):
        self._table = table
        self._found = {}

    def form(self, edit, past, first):
        """The edit past the other one."""
        key = (edit, past, first)
        if key not in self._found:
            self._found[key] = turned(self._table, edit, past, first)
        return self._found[key]


def meets(table, many):
    """Whether the table meets for so many sites."""
    return parted(table, many) is None


def parted(table, many):
    """A shortest list, edits and two arrivals that show that the table does not meet; None if it does."""
    ask_for_table(table)
    ask_for_many(many)
    turner = Turner(table)
    kinds = table.kinds
    orders = orders_of_signs(table, False)
    for text, edits in cases(kinds, many, orders):
        ends = all_ends(turner, text, list(enumerate(edits)))
        first, end = ends[0]
        for arrival, other in ends:
            if other is None or other != end:
                return (text, edits, first, arrival)
    return None


def sure(table):
    """Whether the table is sure."""
    return meets(table, 2) and unsure(table) is None


def unsure(table):
    """A list, three edits and their roles that show that a table that meets for 2 sites is not sure; else None."""
    if not meets(table, 2):
        return None
    turner = Turner(table)
    kinds = table.kinds
    orders = orders_of_signs(table, False)
    for text, edits in cases(kinds, 3, orders):
        for a, b, c in ROLES:
            if behind_both(turner, edits, (a, b, c)) != behind_both(turner, edits, (b, a, c)):
                return (text, edits, (a, b, c))
    return None


def behind_both(turner, edits, roles):
    """The edit c past a, past (b past a), for the roles (a, b, c)."""
    a, b, c = roles
    between = turner.form(edits[b], edits[a], b < a)
    return turner.form(turner.form(edits[c], edits[a], c < a), between, c < b)


def puts_stand(_, edits, end):
    """Whether each sign that an edit puts stands in the end."""
    return all([edit[2] in end for edit in edits if edit[0] == "put"])


def outs_are_gone(text, edits, end):
    """Whether no sign of the list that an edit takes out stands in the end."""
    return not any([text[edit[1]] in end for edit in edits if edit[0] == "out"])


def others_are_kept(text, edits, end):
    """Whether the signs of the list at whose places there is no out and no set stand in the end, in their order."""
    touched = [edit[1] for edit in edits if edit[0] in ("out", "set")]
    kept = [sign for place, sign in enumerate(text) if place not in touched]
    return [sign for sign in end if sign in kept] == kept


def sets_stand(text, edits, end):
    """Whether at each place with sets and no out just one sign that is set stands in the end, and no other one."""
    outs = [edit[1] for edit in edits if edit[0] == "out"]
    sets = [edit for edit in edits if edit[0] == "set" and edit[1] not in outs]
    for place in [edit[1] for edit in sets]:
        standing = [edit for edit in sets if edit[1] == place and edit[2] in end]
        if len(standing) != 1 or text[place] in end:
            return False
    return True


KEEPING = {"puts": puts_stand, "outs": outs_are_gone, "kept": others_are_kept, "sets": sets_stand}


def keeps(table, promise, many):
    """Whether the table keeps the promise for so many sites."""
    return broken(table, promise, many) is None


def broken(table, promise, many):
    """A shortest list, edits and an arrival in which the table does not keep the promise; None if it does."""
    ask_for_table(table)
    if not is_promise(promise):
        raise InvalidPromise(promise)
    ask_for_many(many)
    turner = Turner(table)
    kinds = table.kinds
    orders = orders_of_signs(table, True)
    for text, edits in cases(kinds, many, orders):
        for arrival, end in all_ends(turner, text, list(enumerate(edits))):
            if not is_kept(promise, text, edits, end):
                return (text, edits, arrival)
    return None


def is_kept(promise, text, edits, end):
    """Whether the promise is kept in an arrival with this end, all signs being different."""
    if end is None:
        return False
    keeping = KEEPING[promise]
    return keeping(text, edits, end)


def alike(one, other):
    """Whether both tables turn all edits past all others alike."""
    return unlike(one, other) is None


def unlike(one, other):
    """Two edits that the tables turn otherwise, and whether the site of the first one is lesser; None if none are."""
    ask_for_table(one)
    ask_for_table(other)
    if one.kinds != other.kinds:
        raise OtherKinds(other)
    for edit, past in pairs(one.kinds):
        for first in (True, False):
            if turned(one, edit, past, first) != turned(other, edit, past, first):
                return (edit, past, first)
    return None


def pairs(kinds):
    """Two edits of each two kinds, whose places and signs stand to one another in all ways."""
    signs = DIFFERENT_SIGNS[2] + SAME_SIGNS[2]
    return [
        (made(mine, places[0], order[0]), made(its, places[1], order[1]))
        for mine in kinds for its in kinds for places in PLACES_BY_RELATION for order in signs
    ]


def ask_for_many(value):
    """Raises the error for what is no number of sites."""
    if not is_many(value):
        raise InvalidNumber(value)


def all_ends(turner, text, waiting):
    """All arrivals of the edits that wait, pairs of a site and an edit, each with its end; no list ends in none."""
    ends = []
    for site, edit in waiting:
        behind = None if text is None else list_behind(text, edit)
        if len(waiting) == 1:
            return [((site,), behind)]
        rest = [(other, turner.form(form, edit, other < site)) for other, form in waiting if other != site]
        ends.extend([((site,) + arrival, end) for arrival, end in all_ends(turner, behind, rest)])
    return ends


def cases(kinds, many, orders):
    """All lists and edits that are enough ([13]), shorter lists first; the signs stand in these orders."""
    by_length = [[] for _ in range(LONGEST + 1)]
    for row, places in shapes(kinds, many):
        by_length[max([place + NEEDED[kind] for kind, place in zip(row, places)])].append((row, places))
    for length, found in enumerate(by_length):
        text = LIST_SIGNS[:length]
        for row, places in found:
            for order in orders[len([kind for kind in row if kind in KINDS_WITH_SIGN])]:
                yield text, edits_of(row, places, order)


def shapes(kinds, many):
    """The kinds of so many edits with their places, in all ways that are enough."""
    rows = [(one, other) for one in kinds for other in kinds]
    two = [(row, places) for row in rows for places in places_of(2)]
    if many == 2:
        return two
    # Beside a stay, whose place counts for nothing, the two others do what two sites do, whichever of the three stays.
    beside = [(row + ("stay",), places + (0,)) for row, places in two]
    near = places_of(3)
    return beside + [(row + (kind,), places) for row in rows for kind in kinds for places in near]


def places_of(many):
    """So many places, in all ways that are enough."""
    rows = [()]
    for _ in range(many):
        rows = [row + (place,) for row in rows for place in range(LONGEST)]
    return [row for row in rows if are_near(row)]


def are_near(places):
    """Whether the least place is 0, and no neighbours are too far apart."""
    row = sorted(places)
    return row[0] == 0 and all([after - before <= FARTHEST for before, after in zip(row, row[1:])])


def orders_of_signs(table, different):
    """The orders in which signs of edits are tried, by the number of signs; all of them different, if this is asked."""
    words = [option.partition(":")[0] for row in table.rows for option in options_of(row)]
    # If the table never asks, then signs that are different show all that others do.
    if not any([word in SIGN_CONDITIONS for word in words]):
        return [orders[:1] for orders in DIFFERENT_SIGNS]
    if different:
        return list(DIFFERENT_SIGNS)
    return [one + other for one, other in zip(DIFFERENT_SIGNS, SAME_SIGNS)]


def edits_of(row, places, order):
    """Edits of these kinds at these places, their signs in this order."""
    edits = []
    used = 0
    for kind, place in zip(row, places):
        edits.append(made(kind, place, order[used:used + 1]))
        if kind in KINDS_WITH_SIGN:
            used += 1
    return tuple(edits)


def made(kind, place, sign):
    """The edit of this kind; an out has no sign, a stay no place either."""
    if kind == "stay":
        return ("stay",)
    if kind == "out":
        return (kind, place)
    return (kind, place, sign)
