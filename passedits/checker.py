"""The checker: whether a certificate shows that a claim is true, whoever wrote them."""

from passedits.forms import is_arrival, is_edit_of, is_list, is_many, is_promise, is_table_text, is_wish, is_word
from passedits.meeting import Turner, behind_both, is_kept, meets
from passedits.mends import holds
from passedits.runs import end_of, first_wrong_edit
from passedits.tables import Table, turned


def shows_holding(told, certificate):
    """Whether `told` is (TABLE, WISH) of a true claim "holds", and the certificate is empty."""
    if len(told) != 2 or len(certificate) != 0:
        return False
    text, wish = told
    return is_table_text(text) and is_wish(wish) and holds(Table.read(text), wish)


def shows_parting(told, certificate):
    """Whether `told` is (TABLE, MANY) of a claim "parts" that the certificate shows."""
    if len(told) != 2 or len(certificate) != 4 or not is_table_text(told[0]) or not is_many(told[1]):
        return False
    table = Table.read(told[0])
    many = told[1]
    text, edits, one, other = certificate
    if not are_made(table, text, edits, many) or not is_arrival(one, many) or not is_arrival(other, many):
        return False
    end = end_of(table, text, edits, one)
    return end is None or end != end_of(table, text, edits, other)


def shows_breaking(told, certificate):
    """Whether `told` is (TABLE, PROMISE, MANY) of a claim "breaks" that the certificate shows."""
    if len(told) != 3 or len(certificate) != 3:
        return False
    if not is_table_text(told[0]) or not is_promise(told[1]) or not is_many(told[2]):
        return False
    table = Table.read(told[0])
    promise, many = told[1:]
    text, edits, arrival = certificate
    if not are_made(table, text, edits, many) or not are_different(text, edits) or not is_arrival(arrival, many):
        return False
    return not is_kept(promise, text, edits, end_of(table, text, edits, arrival))


def shows_unsure(told, certificate):
    """Whether `told` is (TABLE,) of a claim "unsure" that the certificate shows, and it meets for 2 sites."""
    if len(told) != 1 or len(certificate) != 3 or not is_table_text(told[0]):
        return False
    table = Table.read(told[0])
    text, edits, roles = certificate
    if not are_made(table, text, edits, 3) or not is_arrival(roles, 3):
        return False
    turner = Turner(table)
    a, b, c = roles
    return behind_both(turner, edits, (a, b, c)) != behind_both(turner, edits, (b, a, c)) and meets(table, 2)


def shows_difference(told, certificate):
    """Whether `told` is (ONE, OTHER) of a claim "differ" that the certificate shows."""
    if len(told) != 2 or len(certificate) != 3 or not is_table_text(told[0]) or not is_table_text(told[1]):
        return False
    one = Table.read(told[0])
    other = Table.read(told[1])
    edit, past, first = certificate
    if one.kinds != other.kinds or not is_edit_of(edit, one.kinds) or not is_edit_of(past, one.kinds):
        return False
    # 1 and 0 equal True and False, but do not stand for them.
    if first is not True and first is not False:
        return False
    return turned(one, edit, past, first) != turned(other, edit, past, first)


CHECKS = {
    "holds": shows_holding,
    "parts": shows_parting,
    "breaks": shows_breaking,
    "unsure": shows_unsure,
    "differ": shows_difference,
}


def accepts(claim, certificate):
    """Whether the first value is a claim for the checker, and the second one a certificate for it."""
    if not isinstance(claim, tuple) or not isinstance(certificate, tuple):
        return False
    if len(claim) == 0 or not is_word(claim[0], list(CHECKS)):
        return False
    check = CHECKS[claim[0]]
    return check(claim[1:], certificate)


def are_made(table, text, edits, many):
    """Whether the values are a list, and edits of the table made on it at one time by so many sites."""
    if not is_list(text) or not isinstance(edits, tuple) or len(edits) != many:
        return False
    return first_wrong_edit(edits, table.kinds, text) is None


def are_different(text, edits):
    """Whether all signs, of the list and of the edits, are different."""
    signs = list(text) + [edit[2] for edit in edits if len(edit) == 3]
    return len(set(signs)) == len(signs)
