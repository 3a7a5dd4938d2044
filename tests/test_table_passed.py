"""table.passed ([3], [6], [7], [9])."""

import itertools
import unittest

from helping import ALL_KINDS, RefusingCase, cells, conditions, odd_values, plain, results
from passedits.errors import InvalidEdit, InvalidFirst
from passedits.tables import Table

PLACES = {"<": (3, 4), "=": (4, 4), ">": (5, 4)}
SIGNS = {"less": ("d", "k"), "same": ("k", "k"), "more": ("r", "k")}
LAST = 10 ** 12


def edit(kind, place, sign):
    """An edit of this kind; an out goes without the sign."""
    return (kind, place) if kind == "out" else (kind, place, sign)


def expected(mine, result):
    """What the document says that the result makes of the edit."""
    if result == "keep":
        return mine
    if result == "stay":
        return ("stay",)
    if result == "put":
        return ("put", mine[1], mine[2])
    return (mine[0], mine[1] + {"up": 1, "down": -1}[result], *mine[2:])


def holding(options, first, order):
    """The result of the first option whose condition holds."""
    for option in options[:-1]:
        condition, result = option.split(":")
        if condition == order or condition == "first" and first:
            return result
    return options[-1]


class Passed(unittest.TestCase):
    def passes(self, table, mine, past, first, result):
        found = table.passed(mine, past, first)
        if found != result or type(found) is not tuple or len(found) > 1 and type(found[1]) is not int:
            self.fail(f"{mine} past {past}, first {first}: {found!r} for {result!r} with\n{table}")

    def passes_in_all_ways(self, kinds, cell, options):
        """Edits that meet in this cell, and some that meet in other ones."""
        table = Table(kinds, (" ".join([*cell, *options]),))
        mine, its, relation = cell
        for (order, (sign, other)), first in itertools.product(SIGNS.items(), (True, False)):
            for found, (place, beside) in PLACES.items():
                here, past = edit(mine, place, sign), edit(its, beside, other)
                result = holding(options, first, order) if found == relation else "keep"
                self.passes(table, here, past, first, expected(here, result))

    def test_every_cell_without_a_row(self):
        for kinds in ALL_KINDS:
            for mine, its, relation in cells(kinds):
                place, beside = PLACES[relation]
                for first in (True, False):
                    here = edit(mine, place, "b")
                    self.passes(Table(kinds), here, edit(its, beside, "a"), first, here)

    def test_every_result_in_every_cell(self):
        for kinds in ALL_KINDS:
            for cell in cells(kinds):
                for result in results(cell[0], kinds):
                    self.passes_in_all_ways(kinds, cell, [result])

    def test_every_condition_in_every_cell(self):
        for kinds in ALL_KINDS:
            for cell in cells(kinds):
                for condition in conditions(*cell[:2]):
                    for result, last in itertools.permutations(results(cell[0], kinds), 2):
                        self.passes_in_all_ways(kinds, cell, [f"{condition}:{result}", last])

    def test_two_conditions_in_order(self):
        kinds = ("put", "out", "set")
        for cell in cells(kinds):
            for one, other in itertools.product(conditions(*cell[:2]), repeat=2):
                for three in itertools.permutations(results(cell[0], kinds), 3):
                    self.passes_in_all_ways(kinds, cell, [f"{one}:{three[0]}", f"{other}:{three[1]}", three[2]])

    def test_four_conditions_in_order(self):
        for kinds, cell in ((("put", "set"), ("set", "put", "=")), (("set",), ("set", "set", "<")),
                            (("put",), ("put", "put", ">"))):
            for four in itertools.product(conditions(*cell[:2]), repeat=4):
                words = ("up", "down", "stay", "keep")
                tested = [f"{condition}:{result}" for condition, result in zip(four, words)]
                self.passes_in_all_ways(kinds, cell, [*tested, "up"])

    def test_signs_from_a_to_z(self):
        table = Table(("put",), ("put put = less:up more:down stay",))
        signs = "abcdefghijklmnopqrstuvwxyz"
        for one, other in itertools.product(range(26), repeat=2):
            mine = ("put", 4, signs[one])
            result = "up" if one < other else "down" if one > other else "stay"
            self.passes(table, mine, ("put", 4, signs[other]), True, expected(mine, result))

    def test_signs_at_unlike_places(self):
        table = Table(("set",), ("set set < less:up more:down stay", "set set > same:stay less:down up"))
        for mine, past, result in (
            (("set", 1, "a"), ("set", 7, "b"), ("set", 2, "a")),
            (("set", 1, "b"), ("set", 7, "a"), ("set", 0, "b")),
            (("set", 1, "b"), ("set", 7, "b"), ("stay",)),
            (("set", 9, "b"), ("set", 7, "b"), ("stay",)),
            (("set", 9, "a"), ("set", 7, "b"), ("set", 8, "a")),
            (("set", 9, "c"), ("set", 7, "b"), ("set", 10, "c")),
        ):
            self.passes(table, mine, past, False, result)

    def test_the_relation_is_that_of_mine_to_its(self):
        table = Table(("put", "out"), ("out put < up", "out put > down", "put out < stay"))
        self.passes(table, ("out", 0), ("put", 100, "a"), True, ("out", 1))
        self.passes(table, ("out", 100), ("put", 0, "a"), True, ("out", 99))
        self.passes(table, ("put", 0, "a"), ("out", 1), True, ("stay",))
        self.passes(table, ("put", 1, "a"), ("out", 0), True, ("put", 1, "a"))

    def test_stay_on_either_side(self):
        for kinds in ALL_KINDS:
            rows = tuple([" ".join(cell) + " up" for cell in cells(kinds)])
            for table, first in itertools.product((Table(kinds), Table(kinds, rows)), (True, False)):
                self.passes(table, ("stay",), ("stay",), first, ("stay",))
                for kind in kinds:
                    for place in (-9, -1, 0, 4, LAST):
                        there = edit(kind, place, "m")
                        self.passes(table, ("stay",), there, first, ("stay",))
                        self.passes(table, there, ("stay",), first, there)

    def test_places_at_the_bounds(self):
        for kinds in ALL_KINDS:
            for mine, its in itertools.product(kinds, repeat=2):
                rows = (f"{mine} {its} < down", f"{mine} {its} = first:down up", f"{mine} {its} > up")
                table = Table(kinds, rows)
                for place, beside, first, behind in (
                    (-9, LAST, True, -10), (LAST, -9, True, LAST + 1),
                    (-9, -9, True, -10), (LAST, LAST, False, LAST + 1),
                    (-9, -9, False, -8), (LAST, LAST, True, LAST - 1),
                    (-9, -8, True, -10), (LAST, LAST - 1, False, LAST + 1), (-1, 0, True, -2), (0, -1, True, 1),
                ):
                    here = edit(mine, place, "a")
                    self.passes(table, here, edit(its, beside, "a"), first, edit(mine, behind, "a"))

    def test_a_set_becomes_a_put(self):
        table = Table(("put", "out", "set"), ("set out = put", "set set = same:put keep", "set put < put"))
        self.passes(table, ("set", 5, "q"), ("out", 5), False, ("put", 5, "q"))
        self.passes(table, ("set", -9, "q"), ("set", -9, "q"), False, ("put", -9, "q"))
        self.passes(table, ("set", LAST - 1, "q"), ("put", LAST, "r"), True, ("put", LAST - 1, "q"))

    def test_by_name(self):
        table = plain()
        self.assertEqual(table.passed(edit=("put", 5, "x"), past=("out", 4), first=False), ("put", 4, "x"))
        self.assertEqual(table.passed(first=True, past=("put", 2, "y"), edit=("put", 2, "x")), ("put", 2, "x"))
        self.assertEqual(table.passed(("put", 2, "x"), ("put", 2, "y"), first=False), ("put", 3, "x"))

    def test_equal_calls_give_equal_results(self):
        table = plain()
        for _ in range(3):
            self.assertEqual(table.passed(("put", 2, "x"), ("put", 2, "y"), False), ("put", 3, "x"))
            self.assertEqual(table.passed(("out", 3), ("out", 3), True), ("stay",))
        self.assertEqual(table, plain())


class Refused(RefusingCase):
    def refuses(self, table, wrong):
        """The value in the place of either edit, beside a right one and beside stay."""
        right = edit(table.kinds[0], 3, "c")
        with self.subTest(kinds=table.kinds, wrong=wrong):
            for other in (right, ("stay",)):
                for first in (True, False):
                    self.refused_given(InvalidEdit, wrong, table.passed, wrong, other, first)
                    self.refused_given(InvalidEdit, wrong, table.passed, other, wrong, first)
            self.refused_given(InvalidEdit, wrong, table.passed, edit=wrong, past=right, first=True)
            self.refused_given(InvalidEdit, wrong, table.passed, edit=right, past=wrong, first=True)

    def refuses_first(self, first):
        with self.subTest(first=first):
            for mine, past in itertools.product((("put", 1, "a"), ("out", 1), ("stay",)), repeat=2):
                self.refused_given(InvalidFirst, first, plain().passed, mine, past, first)
                self.refused_given(InvalidFirst, first, plain().passed, edit=mine, past=past, first=first)

    def test_edits_of_other_kinds(self):
        for kinds in ALL_KINDS:
            for kind in ("put", "out", "set"):
                if kind not in kinds:
                    self.refuses(Table(kinds), edit(kind, 3, "c"))

    def test_values_of_other_sorts(self):
        for value in odd_values():
            self.refuses(Table(("put", "out", "set")), value)
            self.refuses(Table(("out",)), value)

    def test_words_in_the_place_of_a_kind(self):
        table = Table(("put", "out", "set"))
        for word in ("", "Put", "put ", " out", "pu", "stays", "keep", "up", "STAY", b"put", None, True, 0, ["put"],
                     ("put",), {}, table):
            self.refuses(table, (word,))
            self.refuses(table, (word, 1))
            self.refuses(table, (word, 1, "a"))

    def test_places_that_are_none(self):
        table = Table(("put", "out", "set"))
        for place in (-10, -11, LAST + 1, LAST + 2, 10 ** 39, -10 ** 39, True, False, None, "", "1", b"1", (), (1,), [1],
                      {}, range(1), object(), table):
            for kind in table.kinds:
                self.refuses(table, edit(kind, place, "a"))

    def test_signs_that_are_none(self):
        table = Table(("put", "out", "set"))
        for sign in ("", "A", "Z", "ab", "aa", "az", " ", "a ", " a", "\n", "a\n", "`", "{", "0", "1", "~", "-", "_", "@",
                     None, True, 0, 97, b"a", ("a",), ["a"], {}, {"a"}, table):
            self.refuses(table, ("put", 1, sign))
            self.refuses(table, ("set", 1, sign))

    def test_edits_with_more_or_less(self):
        table = Table(("put", "out", "set"))
        for value in ((), ("put",), ("put", 1), ("put", "a"), ("put", "a", 1), ("put", 1, "a", "b"), ("put", 1, "a", None),
                      ("set",), ("set", 1), ("set", "a", 1), ("set", 1, "a", "b"), ("set", 1, 1), ("put", 1, 1),
                      ("out",), ("out", "a"), ("out", 1, "a"), ("out", 1, None), ("out", 1, 1), ("out", 1, ()),
                      ("stay", 1), ("stay", 1, "a"), ("stay", None), ("stay", "stay"), ("stay", ()), (1, "put", "a"),
                      (1, "out"), (("stay",),), (("put", 1, "a"),)):
            self.refuses(table, value)

    def test_lists_and_strings_in_the_place_of_a_tuple(self):
        table = Table(("put", "out", "set"))
        for value in (["put", 1, "a"], ["out", 1], ["set", 1, "a"], ["stay"], "stay", "put", "out 1", {"stay": 1},
                      {"stay"}, iter(("stay",)), range(2)):
            self.refuses(table, value)

    def test_a_list_is_not_changed(self):
        value = ["put", 1, "a"]
        self.refused_given(InvalidEdit, value, plain().passed, value, ("stay",), True)
        self.assertEqual(value, ["put", 1, "a"])

    def test_first(self):
        for first in odd_values():
            if first is not True and first is not False:
                self.refuses_first(first)
        for first in (0, 1, None, "True", "False", "", "first", (), (True,), [True], [False], -1, 2, b"", bool):
            self.refuses_first(first)

    def test_the_order_of_errors(self):
        table = plain()
        wrong, other = ("put", True, "x"), ("set", 1, "x")
        right = ("out", 1)
        self.refused_given(InvalidEdit, wrong, table.passed, wrong, other, 1)
        self.refused_given(InvalidEdit, other, table.passed, other, wrong, None)
        self.refused_given(InvalidEdit, wrong, table.passed, wrong, other, True)
        self.refused_given(InvalidEdit, wrong, table.passed, wrong, right, 0)
        self.refused_given(InvalidEdit, wrong, table.passed, right, wrong, 0)
        self.refused_given(InvalidEdit, other, table.passed, ("stay",), other, 0)
        self.refused_given(InvalidEdit, wrong, table.passed, first=0, past=other, edit=wrong)
        self.refused_given(InvalidEdit, other, table.passed, first=0, past=other, edit=right)


if __name__ == "__main__":
    unittest.main()
