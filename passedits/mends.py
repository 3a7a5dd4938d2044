"""Which wishes hold for a table, and which least sets of changes make them hold."""

from passedits.errors import InvalidChanges, InvalidWish, InvalidWishes
from passedits.forms import first_wrong_row, is_wish
from passedits.limits import MOST_CHANGES, MOST_WISHES
from passedits.meeting import keeps, meets, sure
from passedits.tables import ask_for_table


def holds(table, wish):
    """Whether the wish holds for the table."""
    ask_for_table(table)
    if not is_wish(wish):
        raise InvalidWish(wish)
    if wish[0] == "meets":
        return meets(table, wish[1])
    if wish[0] == "keeps":
        return keeps(table, wish[1], wish[2])
    return sure(table)


def mends(table, wishes, changes):
    """All least sets of the changes behind which all wishes hold, each as the ascending tuple of their indexes."""
    ask_for_table(table)
    if not isinstance(wishes, tuple):
        raise InvalidWishes(None)
    wrong = first_wrong_wish(wishes)
    if wrong is not None:
        raise InvalidWishes(wrong)
    if not isinstance(changes, tuple):
        raise InvalidChanges(None)
    wrong = first_wrong_change(changes, table.kinds)
    if wrong is not None:
        raise InvalidChanges(wrong)
    return least_sets(table, wishes, changes)


def first_wrong_wish(wishes):
    """The index of the first one that is too much or no wish for a table; None if none."""
    for index, wish in enumerate(wishes):
        if index >= MOST_WISHES or not is_wish(wish):
            return index
    return None


def first_wrong_change(changes, kinds):
    """The index of the first one that is too much, no change of a table for these kinds or for a cell of one ahead."""
    wrong = first_wrong_row(changes[:MOST_CHANGES], kinds)
    if wrong is None and len(changes) > MOST_CHANGES:
        return MOST_CHANGES
    return wrong


def least_sets(table, wishes, changes):
    """All least sets of the changes behind which all wishes hold."""
    least = []
    waiting = list(wishes)
    for part in parts(len(changes)):
        if any([is_part(other, part) for other in least]):
            continue
        failing = first_failing(changed_by(table, changes, part), waiting)
        if failing is None:
            least.append(part)
        else:
            # What fails behind some changes often fails behind the next ones, too, so it is asked first there.
            waiting = [failing] + [wish for wish in waiting if wish != failing]
    return tuple(least)


def parts(many):
    """All sets of so many indexes as ascending tuples, shorter ones first, equally long ones ascending."""
    found = [()]
    for index in range(many):
        found = found + [part + (index,) for part in found]
    return sorted(sorted(found), key=len)


def is_part(part, whole):
    """Whether all indexes of the part are in the whole."""
    return all([index in whole for index in part])


def changed_by(table, changes, part):
    """The table behind these of the changes."""
    for index in part:
        table = table.changed(changes[index])
    return table


def first_failing(table, wishes):
    """The first of the wishes that does not hold for the table; None if all do."""
    for wish in wishes:
        if not holds(table, wish):
            return wish
    return None
