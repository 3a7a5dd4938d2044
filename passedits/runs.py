"""What edits do on a list, and where an arrival of them ends."""

from passedits.errors import CannotDo, InvalidArrival, InvalidEdit, InvalidEdits, InvalidText
from passedits.forms import is_arrival, is_edit, is_edit_of, is_list
from passedits.limits import MOST_EDITS
from passedits.tables import ask_for_table, turned


def done(text, edit):
    """The list behind the edit."""
    if not is_list(text):
        raise InvalidText(text)
    if not is_edit(edit):
        raise InvalidEdit(edit)
    behind = list_behind(text, edit)
    if behind is None:
        raise CannotDo(edit)
    return behind


def ended(table, text, edits, arrival):
    """The list behind all edits, done in the order of the arrival; None if one cannot be done in its form then."""
    ask_for_table(table)
    if not is_list(text):
        raise InvalidText(text)
    if not isinstance(edits, tuple) or len(edits) == 0:
        raise InvalidEdits(None)
    wrong = first_wrong_edit(edits, table.kinds, text)
    if wrong is not None:
        raise InvalidEdits(wrong)
    if not is_arrival(arrival, len(edits)):
        raise InvalidArrival(arrival)
    return end_of(table, text, edits, arrival)


def list_behind(text, edit):
    """The list behind the edit, at whatever place; None if it cannot be done."""
    if edit[0] == "stay":
        return text
    kind, place = edit[:2]
    last = len(text) if kind == "put" else len(text) - 1
    if place < 0 or place > last:
        return None
    if kind == "put":
        return text[:place] + edit[2] + text[place:]
    if kind == "out":
        return text[:place] + text[place + 1:]
    return text[:place] + edit[2] + text[place + 1:]


def first_wrong_edit(edits, kinds, text):
    """The index of the first edit that is too much, not of these kinds or cannot be done on the list; None if none."""
    for index, edit in enumerate(edits):
        if index >= MOST_EDITS or not is_edit_of(edit, kinds) or list_behind(text, edit) is None:
            return index
    return None


def end_of(table, text, edits, arrival):
    """The end of the arrival, in which the index of an edit is that of its site."""
    forms = list(edits)
    for many, site in enumerate(arrival, 1):
        text = list_behind(text, forms[site])
        if text is None:
            return None
        for other in arrival[many:]:
            forms[other] = turned(table, forms[other], forms[site], other < site)
    return text
