"""checker.accepts: right papers, and papers of which one part is another one ([2], [5], [16])."""

import itertools
import unittest

from helping import ALL_KINDS, cells, odd_values, plain, results
from judging import judged, variants
from passedits.checker import accepts
from passedits.meeting import alike, meets, sure, unlike, unsure
from passedits.mends import holds
from passedits.tables import Table
from playing import LETTERS, PROMISES, all_different, arrivals, good, made_at_one_time, orders
from test_mends import WISHES

ALL = ("put", "out", "set")
PLAIN = str(plain())
BARE = "kinds put"
PUTS = "kinds put\nput put > up\nput put = first:keep up"
OUTS = "kinds out"
SETS = "kinds set"
# Behind one another, the second of three sets at one place is turned otherwise.
UNSURE = str(good(("set",), {("set", "set", "="): "same:keep first:keep stay"}))

RIGHT = (
    (("holds", PLAIN, ("meets", 2)), ()),
    (("holds", PUTS, ("sure",)), ()),
    (("holds", PLAIN, ("keeps", "puts", 2)), ()),
    (("parts", PLAIN, 3), ("b", (("put", 1, "x"), ("out", 0), ("put", 0, "y")), (0, 1, 2), (1, 2, 0))),
    (("parts", BARE, 2), ("", (("put", 0, "x"), ("put", 0, "y")), (0, 1), (1, 0))),
    (("parts", OUTS, 2), ("a", (("out", 0), ("out", 0)), (0, 1), (0, 1))),
    (("parts", OUTS, 3), ("ba", (("stay",), ("out", 1), ("out", 0)), (0, 2, 1), (0, 1, 2))),
    (("breaks", OUTS, "outs", 2), ("abc", (("out", 0), ("out", 1)), (0, 1))),
    (("breaks", BARE + "\nput put = stay", "puts", 3), ("a", (("put", 1, "x"), ("stay",), ("put", 1, "y")), (1, 0, 2))),
    (("breaks", SETS + "\nset set = up", "kept", 2), ("ab", (("set", 0, "x"), ("set", 0, "y")), (1, 0))),
    (("breaks", SETS + "\nset set = up", "sets", 2), ("ab", (("set", 0, "x"), ("set", 0, "y")), (0, 1))),
    (("differ", PUTS, BARE), (("put", 2, "x"), ("put", 1, "y"), True)),
    (("differ", PLAIN, "kinds put out"), (("out", 10 ** 12), ("put", -9, "a"), False)),
)


def right_papers():
    """The papers above, and those for which a table is asked."""
    table = plain()
    papers = list(RIGHT)
    papers.append((("unsure", PLAIN), unsure(table)))
    papers.append((("unsure", UNSURE), unsure(Table.read(UNSURE))))
    return papers


class Right(unittest.TestCase):
    def test_right_papers(self):
        for claim, certificate in right_papers():
            self.assertIs(accepts(claim, certificate), True, (claim, certificate))
            self.assertIs(judged(claim, certificate), True, (claim, certificate))

    def test_by_position_and_by_name(self):
        for claim, certificate in right_papers():
            self.assertIs(accepts(claim, certificate=certificate), True)
            self.assertIs(accepts(certificate=certificate, claim=claim), True)
            self.assertIs(accepts(certificate, claim), False)

    def test_a_paper_of_another_claim(self):
        papers = right_papers()
        for claim, certificate in papers:
            for _, other in papers:
                self.assertIs(accepts(claim, other), judged(claim, other), (claim, other))


class OtherParts(unittest.TestCase):
    def test_another_part_of_the_certificate(self):
        for claim, certificate in right_papers():
            for other in variants(certificate):
                found = accepts(claim, other)
                self.assertIs(type(found), bool)
                if found is not judged(claim, other):
                    self.fail(f"{found} for {claim}, {other!r}")

    def test_another_part_of_the_claim(self):
        for claim, certificate in right_papers():
            for other in variants(claim):
                found = accepts(other, certificate)
                self.assertIs(type(found), bool)
                if found is not judged(other, certificate):
                    self.fail(f"{found} for {other!r}, {certificate}")

    def test_lists_in_the_place_of_tuples(self):
        def lists(value):
            return [lists(part) for part in value] if type(value) is tuple else value

        for claim, certificate in right_papers():
            self.assertIs(accepts(lists(claim), certificate), False)
            self.assertIs(accepts(claim, lists(certificate)), False)
            self.assertIs(accepts(list(claim), list(certificate)), False)


class Holds(unittest.TestCase):
    def test_each_wish(self):
        for kinds in ALL_KINDS:
            for table in (Table(kinds), good(kinds)):
                for wish in WISHES:
                    self.assertIs(accepts(("holds", str(table), wish), ()), holds(table, wish))

    def test_a_certificate_that_is_not_empty(self):
        for certificate in odd_values() + [((),), (None,), ("",), ("a", (), (), ()), (True,)]:
            expected = type(certificate) is tuple and certificate == ()
            self.assertIs(accepts(("holds", PLAIN, ("meets", 2)), certificate), expected)
            self.assertIs(accepts(("holds", PLAIN, ("meets", 3)), certificate), False)


class Parts(unittest.TestCase):
    def asks(self, expected, text, many, *certificate):
        self.assertIs(accepts(("parts", text, many), certificate), expected, certificate)

    def test_each_part(self):
        edits = (("put", 0, "x"), ("put", 0, "y"))
        self.asks(True, BARE, 2, "ab", edits, (0, 1), (1, 0))
        self.asks(True, BARE, 2, "ab", edits, (1, 0), (0, 1))
        self.asks(True, BARE, 2, "ab", (("put", 2, "x"), ("put", 1, "x")), (1, 0), (0, 1))
        # Ends that are alike, also of signs that are.
        self.asks(False, BARE, 2, "ab", edits, (0, 1), (0, 1))
        self.asks(False, BARE, 2, "ab", (("put", 0, "x"),) * 2, (0, 1), (1, 0))
        self.asks(False, BARE, 2, "ab", (("put", 0, "x"), ("stay",)), (0, 1), (1, 0))
        self.asks(False, BARE, 2, "aa", (("put", 0, "a"), ("put", 1, "a")), (0, 1), (1, 0))
        self.asks(False, PUTS, 2, "ab", edits, (0, 1), (1, 0))
        # A list that is none, edits that cannot be done, or are none of the table's.
        for text in ("aB", "a b", "a1", "a\n", b"ab", ("a", "b"), ["a"], None, 0, True, ()):
            self.asks(False, BARE, 2, text, edits, (0, 1), (1, 0))
        for edit in (("put", 3, "y"), ("put", -1, "y"), ("out", 0), ("set", 0, "y"), ("put", 0, "Y"), ("put", 0, ""),
                     ("put", False, "y"), ("put", "0", "y"), ("put", 0), ("put", 0, "y", "y"), ["put", 0, "y"],
                     ("stay", 0), (), "stay", None, ("put", 0, 0), ("PUT", 0, "y"), ("put", 10 ** 12, "y")):
            self.asks(False, BARE, 2, "ab", (("put", 0, "x"), edit), (0, 1), (1, 0))
            self.asks(False, BARE, 2, "ab", (edit, ("put", 0, "x")), (0, 1), (1, 0))

    def test_arrivals(self):
        edits = (("put", 0, "x"), ("put", 0, "y"))
        for row in ((0,), (1,), (), (0, 0), (1, 1), (0, 1, 2), (0, 2), (1, 2), (0, 1, 1), (-1, 0), (0, -1), (0, True),
                    (False, 1), (True, False), [0, 1], "01", ("0", "1"), (0, (1,)), None, 0, {0: 1}, {0, 1}, range(2),
                    ((0, 1),), (0, None), (0, 10 ** 39)):
            self.asks(False, BARE, 2, "ab", edits, row, (1, 0))
            self.asks(False, BARE, 2, "ab", edits, (1, 0), row)

    def test_an_end_that_is_none(self):
        edits = (("out", 0), ("out", 0))
        for one, other in itertools.product(arrivals(2), repeat=2):
            self.asks(True, OUTS, 2, "a", edits, one, other)
            self.asks(False, OUTS, 2, "ab", edits, one, other)
        # Only one of the arrivals has no end, and it may stand first or last.
        edits = (("out", 1), ("out", 0))
        self.asks(True, OUTS, 2, "ab", edits, (0, 1), (1, 0))
        self.asks(True, OUTS, 2, "ab", edits, (1, 0), (0, 1))
        self.asks(True, OUTS, 2, "ab", edits, (1, 0), (1, 0))
        self.asks(False, OUTS, 2, "ab", edits, (0, 1), (0, 1))

    def test_the_longest_list(self):
        edits = (("put", 1000, "x"), ("put", 999, "y"))
        self.asks(True, BARE, 2, "a" * 1000, edits, (0, 1), (1, 0))
        self.asks(False, BARE, 2, "a" * 1001, edits, (0, 1), (1, 0))
        self.asks(True, BARE, 2, "b" * 1000, (("put", 0, "x"), ("put", 0, "y")), (0, 1), (1, 0))
        self.asks(False, BARE, 2, "b" * 1001, (("put", 0, "x"), ("put", 0, "y")), (0, 1), (1, 0))
        self.asks(False, BARE, 2, "a" * 4000, edits, (0, 1), (1, 0))

    def test_other_numbers_of_sites(self):
        for many in range(7):
            edits = tuple([("put", 0, sign) for sign in "tuvwxyz"][:many])
            rows = (tuple(range(many)), tuple(range(many))[::-1])
            self.asks(many in (2, 3), BARE, many, "a", edits, *rows)
            for other in (2, 3):
                self.asks(many == other, BARE, other, "a", edits, *rows)
        for many in (True, False, None, "2", (2,), -2, 2 * 10 ** 39):
            self.asks(False, BARE, many, "", (("put", 0, "x"), ("put", 0, "y")), (0, 1), (1, 0))

    def test_one_element_more_or_less(self):
        certificate = ("", (("put", 0, "x"), ("put", 0, "y")), (0, 1), (1, 0))
        for many in range(4):
            self.asks(False, BARE, 2, *certificate[:many])
            self.asks(False, BARE, 2, *certificate[many + 1:])
        self.asks(False, BARE, 2, *certificate, (0, 1))
        self.asks(False, BARE, 2, *certificate, None)

    def test_all_papers_on_short_lists(self):
        tables = [Table(("put",)), good(("put",)), Table(("out",)), Table(("set",)), good(("out", "set"))]
        tables += [good(("put",), {("put", "put", "="): "same:keep first:keep up"})]
        for table in tables:
            for length, edits in ((length, edits) for length in range(3)
                                  for edits in made_at_one_time(table.kinds, length, 2)):
                for one, other in itertools.product(arrivals(2), repeat=2):
                    claim, certificate = ("parts", str(table), 2), (LETTERS[:length], edits, one, other)
                    self.assertIs(accepts(claim, certificate), judged(claim, certificate), (claim, certificate))

    def test_no_paper_for_a_table_that_meets(self):
        for table, many, length in ((plain(), 2, 2), (good(("put",)), 3, 1), (good(("out",)), 3, 2)):
            self.assertIs(meets(table, many), True)
            for edits in made_at_one_time(table.kinds, length, many):
                for one, other in itertools.combinations_with_replacement(arrivals(many), 2):
                    self.assertIs(accepts(("parts", str(table), many), (LETTERS[:length], edits, one, other)), False)


class Breaks(unittest.TestCase):
    def asks(self, expected, text, promise, many, *certificate):
        self.assertIs(accepts(("breaks", text, promise, many), certificate), expected, certificate)

    def test_signs_that_are_alike(self):
        text = BARE + "\nput put = stay"
        self.asks(True, text, "puts", 2, "ab", (("put", 0, "x"), ("put", 0, "y")), (0, 1))
        self.asks(False, text, "puts", 2, "ab", (("put", 0, "x"), ("put", 0, "x")), (0, 1))
        self.asks(False, text, "puts", 2, "aa", (("put", 0, "x"), ("put", 0, "y")), (0, 1))
        self.asks(False, text, "puts", 2, "ax", (("put", 0, "x"), ("put", 0, "y")), (0, 1))
        self.asks(False, text, "puts", 2, "ya", (("put", 0, "x"), ("put", 0, "y")), (0, 1))
        self.asks(False, OUTS, "outs", 2, "aab", (("out", 0), ("out", 2)), (0, 1))
        self.asks(False, OUTS, "kept", 2, "abca", (("out", 0), ("out", 1)), (0, 1))
        self.asks(True, OUTS, "kept", 2, "abcd", (("out", 0), ("out", 1)), (0, 1))

    def test_an_arrival_in_which_it_is_kept(self):
        edits = (("out", 0), ("out", 1))
        self.asks(True, OUTS, "outs", 2, "abc", edits, (0, 1))
        self.asks(False, OUTS, "outs", 2, "abc", edits, (1, 0))
        self.asks(False, OUTS, "puts", 2, "abc", edits, (0, 1))
        self.asks(False, OUTS, "sets", 2, "abc", edits, (0, 1))
        for promise in PROMISES:
            # There is no place 1 any more.
            self.asks(True, OUTS, promise, 2, "ab", edits, (0, 1))
            self.asks(False, OUTS, promise, 2, "ab", edits, (1, 0))

    def test_other_promises(self):
        for promise in odd_values() + ["Puts", "puts ", "put", "meets", "sure", ("puts",), b"puts"]:
            self.asks(False, OUTS, promise, 2, "ab", (("out", 0), ("out", 1)), (0, 1))

    def test_arrivals(self):
        for row in ((0,), (), (0, 0), (0, 1, 2), (1, 2), (0, True), (False, 1), [0, 1], "01", None, 0, ((0, 1),)):
            self.asks(False, OUTS, "outs", 2, "ab", (("out", 0), ("out", 1)), row)

    def test_edits_and_lists(self):
        for edit in (("out", 2), ("out", -1), ("put", 0, "x"), ("set", 0, "x"), ("out", True), ("out",), ["out", 1],
                     ("out", 1, "x"), None, (), "out"):
            self.asks(False, OUTS, "outs", 2, "ab", (("out", 0), edit), (0, 1))
        for text in ("aB", "a b", ("a", "b"), ["a", "b"], b"ab", None, 12):
            self.asks(False, OUTS, "outs", 2, text, (("out", 0), ("out", 1)), (0, 1))

    def test_other_numbers_of_sites(self):
        for many in range(7):
            edits = (("out", 0),) * many
            self.asks(many in (2, 3), OUTS, "puts", many, "a", edits, tuple(range(many)))
            for other in (2, 3):
                self.asks(many == other, OUTS, "puts", other, "a", edits, tuple(range(many)))
        for many in (True, None, "2", (2,)):
            self.asks(False, OUTS, "puts", many, "a", (("out", 0),) * 2, (0, 1))

    def test_all_letters(self):
        letters = "abcdefghijklmnopqrstuvwxyz"
        self.asks(True, OUTS, "puts", 2, letters, (("out", 25), ("out", 25)), (0, 1))
        self.asks(True, OUTS, "kept", 2, letters, (("out", 3), ("out", 3)), (1, 0))
        self.asks(False, OUTS, "puts", 2, letters + "a", (("out", 26), ("out", 26)), (0, 1))
        self.asks(False, OUTS, "puts", 2, "a" * 1000, (("out", 999), ("out", 999)), (0, 1))
        text = BARE + "\nput put = stay"
        self.asks(True, text, "puts", 2, letters[:24], (("put", 3, "z"), ("put", 3, "y")), (0, 1))
        self.asks(False, text, "puts", 2, letters[:25], (("put", 3, "z"), ("put", 3, "y")), (0, 1))

    def test_all_papers_on_short_lists(self):
        for table in (Table(("put",)), Table(("out",)), good(("set",), {("set", "set", "="): "keep"}), good(("put",)),
                      good(("put",), {("put", "put", "="): "less:stay up"}), Table(("put", "out"))):
            for length, edits in ((length, edits) for length in range(3)
                                  for edits in made_at_one_time(table.kinds, length, 2)):
                for row, promise in itertools.product(arrivals(2), PROMISES):
                    claim, certificate = ("breaks", str(table), promise, 2), (LETTERS[:length], edits, row)
                    self.assertIs(accepts(claim, certificate), judged(claim, certificate), (claim, certificate))

    def test_three_sets_and_an_out_at_one_place(self):
        table = good(ALL, {("set", "out", "="): "put", ("out", "set", "="): "stay"})
        for kinds in (("set", "set", "out"), ("set", "set", "set"), ("set", "out", "out")):
            edits = tuple((kind, 0, sign) if kind == "set" else (kind, 0) for kind, sign in zip(kinds, "xyz"))
            for row, promise in itertools.product(arrivals(3), PROMISES):
                claim, certificate = ("breaks", str(table), promise, 3), ("ab", edits, row)
                self.assertIs(accepts(claim, certificate), judged(claim, certificate), (claim, certificate))


class Unsure(unittest.TestCase):
    def asks(self, expected, text, *certificate):
        self.assertIs(accepts(("unsure", text), certificate), expected, certificate)

    def test_roles(self):
        for text in (PLAIN, UNSURE):
            shown, edits, roles = unsure(Table.read(text))
            self.asks(True, text, shown, edits, roles)
            a, b, c = roles
            # The edits a and b stand for one another.
            self.asks(True, text, shown, edits, (b, a, c))
            for row in ((a, b), (a, b, b), (a, b, c, c), (a, b, 3), (a, b, -1), (a, b, None), (), list(roles), "012",
                        None, 0, (a, b, (c,)), (0, True, 2), (False, 1, 2), (roles,), (1, 2, 3), {0: 1, 1: 2, 2: 3}):
                self.asks(False, text, shown, edits, row)
            for row in arrivals(3):
                self.asks(judged(("unsure", text), (shown, edits, row)), text, shown, edits, row)

    def test_edits_and_lists(self):
        shown, edits, roles = unsure(plain())
        self.asks(True, PLAIN, shown + "zz", edits, roles)
        self.asks(True, PLAIN, "a" * 1000, edits, roles)
        self.asks(False, PLAIN, "a" * 1001, edits, roles)
        for text in ("A", "a b", ["a"], ("a",), b"a", None, 3):
            self.asks(False, PLAIN, text, edits, roles)
        for index in range(3):
            for edit in (("set", 0, "x"), ("out", len(shown)), ("put", len(shown) + 1, "x"), ("put", -1, "x"), None,
                         ("out", False), list(edits[index]), edits[index] + (1,), ()):
                self.asks(False, PLAIN, shown, edits[:index] + (edit,) + edits[index + 1:], roles)
        self.asks(False, PLAIN, shown, edits[:2], roles)
        self.asks(False, PLAIN, shown, edits[:2], (0, 1))
        self.asks(False, PLAIN, shown, edits + (("stay",),), roles)
        self.asks(False, PLAIN, shown, edits + (("stay",),), (0, 1, 2, 3))
        self.asks(False, PLAIN, shown, list(edits), roles)

    def test_a_table_that_does_not_meet_for_two_sites(self):
        table = plain().changed("out put < up")
        self.assertIs(meets(table, 2), False)
        shown, edits, roles = unsure(plain())
        self.assertIs(judged(("unsure", PLAIN), (shown, edits, roles)), True)
        for row in arrivals(3):
            self.asks(False, str(table), shown, edits, row)
            self.asks(False, "kinds put out", shown, edits, row)

    def test_all_papers_on_a_short_list(self):
        for table in (Table.read(UNSURE), good(("set",)), good(("put",)), plain(), good(("out", "set")),
                      Table(("set",), ("set set = less:up keep",))):
            never = sure(table)
            for edits in made_at_one_time(table.kinds, 1, 3):
                for row in arrivals(3):
                    claim, certificate = ("unsure", str(table)), ("a", edits, row)
                    found = accepts(claim, certificate)
                    self.assertIs(found, judged(claim, certificate), (claim, certificate))
                    self.assertFalse(found and never)


class Differ(unittest.TestCase):
    def asks(self, expected, one, other, *certificate):
        self.assertIs(accepts(("differ", one, other), certificate), expected, certificate)

    def test_each_part(self):
        mine, its = ("put", 2, "x"), ("put", 2, "y")
        self.asks(True, PUTS, BARE, mine, its, False)
        self.asks(True, BARE, PUTS, mine, its, False)
        self.asks(False, PUTS, BARE, mine, its, True)
        self.asks(False, PUTS, PUTS, mine, its, False)
        self.asks(True, PUTS, BARE, ("put", 3, "x"), its, True)
        self.asks(False, PUTS, BARE, ("put", 1, "x"), its, True)
        for first in (1, 0, None, "False", (), [], (False,), 2):
            self.asks(False, PUTS, BARE, mine, its, first)
            self.asks(False, PUTS, BARE, ("put", 3, "x"), its, first)
        for edit in (("out", 2), ("set", 2, "x"), ("stay",), ("put", True, "x"), ("put", 2, "X"), ("put", 2), None,
                     ["put", 2, "x"], ("put", 10 ** 12 + 1, "x"), ("put", -10, "x"), (), "put"):
            self.asks(False, PUTS, BARE, edit, its, False)
            self.asks(False, PUTS, BARE, mine, edit, False)
        self.asks(False, PUTS, BARE, mine, its)
        self.asks(False, PUTS, BARE, mine, its, False, False)
        self.asks(False, PUTS, BARE, mine, its, its, False)

    def test_places_at_the_edges(self):
        for mine, its in ((10 ** 12, -9), (-8, -9), (10 ** 12, 10 ** 12 - 1)):
            self.asks(True, PUTS, BARE, ("put", mine, "x"), ("put", its, "x"), True)
        for mine, its in ((10 ** 12 + 1, -9), (10 ** 12 + 1, 10 ** 12), (-9, -10), (0, -10)):
            self.asks(False, PUTS, BARE, ("put", mine, "x"), ("put", its, "x"), True)

    def test_tables_for_other_kinds(self):
        texts = {kinds: str(Table(kinds)) for kinds in ALL_KINDS}
        for one, other in itertools.permutations(ALL_KINDS, 2):
            for mine, its in itertools.product((("put", 1, "x"), ("out", 1), ("set", 1, "x")), repeat=2):
                self.asks(False, texts[one], texts[other], mine, its, True)
                self.asks(False, str(good(one)), texts[other], mine, its, True)

    def test_tables_that_are_alike(self):
        other = str(plain().changed("out out < keep").changed("put put = first:keep first:stay up"))
        for mine, its in itertools.product((("put", 1, "x"), ("put", 0, "y"), ("out", 1), ("out", 0)), repeat=2):
            for first in (True, False):
                self.asks(False, PLAIN, other, mine, its, first)

    def test_all_papers(self):
        for kinds, cell in ((kinds, cell) for kinds in ALL_KINDS[3:] for cell in cells(kinds)):
            one, other = good(kinds), good(kinds, {cell: results(cell[0], kinds)[-1]})
            shown = unlike(one, other)
            self.assertIs(shown is None, alike(one, other))
            if shown is not None:
                self.asks(True, str(one), str(other), *shown)
            edits = [edit for kind in kinds for place in (0, 1)
                     for edit in ([("out", place)] if kind == "out" else [(kind, place, sign) for sign in "xy"])]
            for mine, its, first in itertools.product(edits, edits, (True, False)):
                claim, certificate = ("differ", str(one), str(other)), (mine, its, first)
                self.assertIs(accepts(claim, certificate), judged(claim, certificate))


class ThreeSites(unittest.TestCase):
    def test_all_orders_of_signs(self):
        table = good(("put",), {("put", "put", "="): "same:keep less:keep up"})
        for order in orders(3):
            edits = tuple(("put", 0, sign) for sign in order)
            for one, other in itertools.product(arrivals(3), repeat=2):
                claim, certificate = ("parts", str(table), 3), ("", edits, one, other)
                self.assertIs(accepts(claim, certificate), judged(claim, certificate))

    def test_signs_of_three_edits(self):
        self.assertIs(all_different("ab", (("put", 0, "x"), ("out", 0), ("put", 0, "x"))), False)
        claim = ("breaks", BARE + "\nput put = stay", "puts", 3)
        for signs, expected in (("xyz", True), ("xyx", False), ("xxy", False), ("yxx", False), ("axy", False)):
            edits = tuple(("put", 0, sign) for sign in signs)
            self.assertIs(accepts(claim, ("ab", edits, (0, 1, 2))), expected)


if __name__ == "__main__":
    unittest.main()
