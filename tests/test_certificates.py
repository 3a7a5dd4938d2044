"""certificates: claims with certificates that the checker accepts ([2], [3], [4], [5], [16])."""

import itertools
import unittest

from helping import ALL_KINDS, RefusingCase, cells, conditions, odd_values, plain, results, stubborn_values
from judging import judged
from passedits.certificates import certify_meeting, certify_promise, certify_sure
from passedits.checker import accepts
from passedits.errors import InvalidNumber, InvalidPromise, NotATable
from passedits.meeting import keeps, meets, sure
from passedits.tables import Table
from playing import PROMISES, good

ALL = ("put", "out", "set")


class PaperCase(unittest.TestCase):
    def asks(self, paper, claim, empty):
        """Asks for a pair of this claim and a certificate, both right."""
        self.assertIs(type(paper), tuple)
        self.assertEqual(len(paper), 2)
        self.assertEqual(paper[0], claim)
        self.assertEqual([type(part) for part in paper[0]], [type(part) for part in claim])
        self.assertIs(type(paper[1]), tuple)
        self.assertEqual(paper[1] == (), empty)
        self.assertIs(accepts(*paper), True, paper)
        self.assertIs(judged(*paper), True, paper)

    def asks_meeting(self, table, many):
        """Asks for the paper of `certify_meeting`."""
        holds = meets(table, many)
        claim = ("holds", str(table), ("meets", many)) if holds else ("parts", str(table), many)
        self.asks(certify_meeting(table, many), claim, holds)
        return holds

    def asks_sure(self, table):
        """Asks for the paper of `certify_sure`."""
        holds = sure(table)
        if holds:
            claim = ("holds", str(table), ("sure",))
        else:
            claim = ("unsure", str(table)) if meets(table, 2) else ("parts", str(table), 2)
        self.asks(certify_sure(table), claim, holds)
        return claim[0]

    def asks_promise(self, table, promise, many):
        """Asks for the paper of `certify_promise`."""
        holds = keeps(table, promise, many)
        claim = ("breaks", str(table), promise, many)
        if holds:
            claim = ("holds", str(table), ("keeps", promise, many))
        self.asks(certify_promise(table, promise, many), claim, holds)
        return holds

    def asks_for_all(self, table, numbers=(2, 3)):
        """Asks for all papers of a table."""
        self.asks_sure(table)
        for many in numbers:
            self.asks_meeting(table, many)
            for promise in PROMISES:
                self.asks_promise(table, promise, many)


class Papers(PaperCase):
    def test_good_tables_and_bare_ones(self):
        for kinds in ALL_KINDS:
            self.asks_for_all(good(kinds))
            self.asks_for_all(Table(kinds))

    def test_meeting(self):
        for kinds in ALL_KINDS:
            self.assertIs(self.asks_meeting(good(kinds), 2), True)
            self.assertIs(self.asks_meeting(good(kinds), 3), "put" not in kinds or "out" not in kinds)
            self.assertIs(self.asks_meeting(Table(kinds), 2), False)

    def test_sure(self):
        for kinds in ALL_KINDS:
            self.assertEqual(self.asks_sure(good(kinds)), "unsure" if {"put", "out"} <= set(kinds) else "holds")
            self.assertEqual(self.asks_sure(Table(kinds)), "parts")
        self.assertEqual(self.asks_sure(good(("set",), {("set", "set", "="): "same:keep first:keep stay"})), "unsure")
        self.assertEqual(self.asks_sure(good(("set",), {("set", "set", "="): "same:keep less:keep stay"})), "holds")

    def test_promises(self):
        bare = Table(("put",), ("put put > up",))
        self.assertIs(self.asks_promise(bare, "puts", 3), True)
        stays = good(ALL, {("put", "put", "="): "stay"})
        for many in (2, 3):
            self.assertIs(self.asks_promise(stays, "puts", many), False)
            self.assertIs(self.asks_promise(stays, "outs", many), True)
        self.assertIs(self.asks_promise(good(("set",), {("set", "set", "="): "up"}), "sets", 2), False)

    def test_one_other_cell(self):
        for kinds in (("put",), ("out",), ("set",), ("put", "set")):
            for cell in cells(kinds):
                for result in results(cell[0], kinds):
                    table = good(kinds, {cell: result})
                    self.asks_for_all(table, (2, 3) if len(kinds) == 1 else (2,))
                    self.asks_meeting(table, 3)

    def test_one_other_cell_for_two_sites(self):
        for cell in cells(ALL):
            for result in results(cell[0], ALL):
                self.asks_for_all(good(ALL, {cell: result}), (2,))

    def test_conditions(self):
        for mine, its in itertools.product(("put", "set"), repeat=2):
            for condition in conditions(mine, its):
                for result in ("keep", "stay"):
                    table = good(("put", "set"), {(mine, its, "="): f"{condition}:{result} up"})
                    self.asks_for_all(table, (2,))
                    self.asks_meeting(table, 3)

    def test_no_other_claim_is_accepted(self):
        table = plain()
        for claim in (("holds", str(table), ("meets", 3)), ("holds", str(table), ("sure",)), ("parts", str(table), 2)):
            for certificate in ((), certify_meeting(table, 3)[1], certify_sure(table)[1]):
                self.assertIs(accepts(claim, certificate), False)


class Called(RefusingCase):
    def no_tables(self):
        """Values of many sorts that are no tables."""
        return [value for value in odd_values() + stubborn_values() + [str(plain())] if not isinstance(value, Table)]

    def no_numbers(self):
        """Values of many sorts that are neither 2 nor 3."""
        values = [value for value in odd_values() if not (type(value) is int and value in (2, 3))]
        return values + stubborn_values() + [4, -2, "2", (2,), [3]]

    def test_no_table(self):
        for table in self.no_tables():
            self.refused_given(NotATable, table, certify_meeting, table, 2)
            self.refused_given(NotATable, table, certify_sure, table)
            self.refused_given(NotATable, table, certify_promise, table, "puts", 2)

    def test_other_numbers(self):
        for many in self.no_numbers():
            self.refused_given(InvalidNumber, many, certify_meeting, plain(), many)
            self.refused_given(InvalidNumber, many, certify_promise, plain(), "puts", many)

    def test_no_promise(self):
        for promise in odd_values() + stubborn_values() + ["Puts", "puts ", ("puts",), b"puts", "meets", "sure"]:
            self.refused_given(InvalidPromise, promise, certify_promise, plain(), promise, 2)

    def test_the_order_of_the_errors(self):
        self.refused_given(NotATable, None, certify_meeting, None, None)
        self.refused_given(NotATable, None, certify_meeting, many=1, table=None)
        self.refused_given(NotATable, None, certify_promise, many=1, promise=2, table=None)
        self.refused_given(InvalidPromise, 2, certify_promise, many="puts", promise=2, table=plain())
        self.refused_given(InvalidPromise, None, certify_promise, plain(), None, None)
        self.refused_given(InvalidNumber, None, certify_promise, plain(), "puts", None)

    def test_by_position_and_by_name(self):
        self.assertEqual(certify_meeting(many=3, table=plain()), certify_meeting(plain(), 3))
        self.assertEqual(certify_meeting(plain(), many=2), certify_meeting(plain(), 2))
        self.assertEqual(certify_sure(table=plain()), certify_sure(plain()))
        self.assertEqual(certify_promise(many=2, promise="puts", table=plain()), certify_promise(plain(), "puts", 2))

    def test_a_second_call_returns_the_same(self):
        table = plain()
        before = (str(table), table.rows)
        for other in (table, Table.read(str(table))):
            self.assertEqual(certify_meeting(other, 3), certify_meeting(table, 3))
            self.assertEqual(certify_sure(other), certify_sure(table))
            self.assertEqual(certify_promise(other, "kept", 3), certify_promise(table, "kept", 3))
        self.assertEqual((str(table), table.rows), before)


if __name__ == "__main__":
    unittest.main()
