"""Certificates: claims about tables, with what the checker needs to see that they are true."""

from passedits.meeting import broken, parted, unsure


def certify_meeting(table, many):
    """The claim that the table meets for so many sites, or that it parts, and its certificate."""
    shown = parted(table, many)
    if shown is None:
        return (("holds", str(table), ("meets", many)), ())
    return (("parts", str(table), many), shown)


def certify_sure(table):
    """The claim that the table is sure, that it parts two sites, or else that it is unsure, and its certificate."""
    shown = parted(table, 2)
    if shown is not None:
        return (("parts", str(table), 2), shown)
    shown = unsure(table)
    if shown is None:
        return (("holds", str(table), ("sure",)), ())
    return (("unsure", str(table)), shown)


def certify_promise(table, promise, many):
    """The claim that the table keeps the promise, or that it breaks it, and its certificate."""
    shown = broken(table, promise, many)
    if shown is None:
        return (("holds", str(table), ("keeps", promise, many)), ())
    return (("breaks", str(table), promise, many), shown)
