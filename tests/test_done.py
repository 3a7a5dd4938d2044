"""runs.done ([3], [4], [5], [6])."""

import unittest

from helping import RefusingCase, nested, odd_values
from passedits.errors import CannotDo, InvalidEdit, InvalidText
from passedits.runs import done

LONG = "abcdefghij" * 100


class Done(RefusingCase):
    def test_puts(self):
        for text, place, expected in (
            ("", 0, "x"), ("abc", 0, "xabc"), ("abc", 1, "axbc"), ("abc", 2, "abxc"), ("abc", 3, "abcx"),
        ):
            self.assertEqual(done(text, ("put", place, "x")), expected)

    def test_outs(self):
        for text, place, expected in (("a", 0, ""), ("abc", 0, "bc"), ("abc", 1, "ac"), ("abc", 2, "ab")):
            self.assertEqual(done(text, ("out", place)), expected)

    def test_sets(self):
        for text, place, expected in (
            ("a", 0, "x"), ("abc", 0, "xbc"), ("abc", 1, "axc"), ("abc", 2, "abx"), ("axc", 1, "axc"),
        ):
            self.assertEqual(done(text, ("set", place, "x")), expected)

    def test_stay(self):
        for text in ("", "a", "abc", LONG):
            self.assertEqual(done(text, ("stay",)), text)

    def test_signs_from_a_to_z(self):
        for sign in "abcdefghijklmnopqrstuvwxyz":
            self.assertEqual(done("zaz", ("put", 1, sign)), "z" + sign + "az")
            self.assertEqual(done("zaz", ("set", 1, sign)), "z" + sign + "z")
            self.assertEqual(done("b" + sign + "b", ("out", 1)), "bb")

    def test_signs_that_are_alike(self):
        self.assertEqual(done("aaa", ("put", 1, "a")), "aaaa")
        self.assertEqual(done("aaa", ("out", 1)), "aa")

    def test_beyond_the_first_place(self):
        for place in (-1, -2, -9):
            for text in ("", "a", "abc"):
                for edit in (("put", place, "x"), ("out", place), ("set", place, "x")):
                    self.refused_given(CannotDo, edit, done, text, edit)

    def test_beyond_the_last_place(self):
        for text in ("", "a", "abc", LONG):
            for more in (0, 1, 7):
                for edit in (
                    ("put", len(text) + 1 + more, "x"), ("out", len(text) + more), ("set", len(text) + more, "x"),
                ):
                    self.refused_given(CannotDo, edit, done, text, edit)
        for edit in (("put", 10 ** 12, "x"), ("out", 10 ** 12), ("set", 10 ** 12, "x")):
            self.refused_given(CannotDo, edit, done, "abc", edit)

    def test_a_list_of_1000_signs(self):
        self.assertEqual(done(LONG, ("put", 1000, "x")), LONG + "x")
        self.assertEqual(done(LONG, ("put", 0, "x")), "x" + LONG)
        self.assertEqual(done(LONG, ("out", 999)), LONG[:-1])
        self.assertEqual(done(LONG, ("set", 999, "x")), LONG[:-1] + "x")

    def test_a_list_of_1001_signs(self):
        text = LONG + "a"
        for edit in (("put", 0, "x"), ("out", 0), ("stay",)):
            self.refused_given(InvalidText, text, done, text, edit)

    def test_what_is_no_list(self):
        for text in ("A", "Z", "aB", "a b", " ", "a ", "\n", "a\n", "1", "a1", "-", "`", "{", "a~", "~", ".", "a_b"):
            self.refused_given(InvalidText, text, done, text, ("stay",))

    def test_odd_texts(self):
        for text in odd_values():
            if not (isinstance(text, str) and all("a" <= sign <= "z" for sign in text)):
                self.refused_given(InvalidText, text, done, text, ("stay",))
        for text in (("a", "b"), ["a", "b"], ("abc",), b"abc", bytearray(b"abc"), range(3), {"a"}, {"a": 1}):
            self.refused_given(InvalidText, text, done, text, ("stay",))

    def test_odd_edits(self):
        for edit in odd_values():
            self.refused_given(InvalidEdit, edit, done, "abc", edit)

    def test_what_is_no_edit(self):
        for edit in (
            ("put",), ("put", 1), ("put", 1, "x", "y"), ("put", "x", 1), ("put", 1, "xy"), ("put", 1, ""),
            ("put", 1, "X"), ("put", 1, " "), ("put", 1, 5), ("put", 1, None), ("put", 1, b"x"), ("put", 1, ("x",)),
            ("put", True, "x"), ("put", None, "x"), ("put", "1", "x"), ("put", (1,), "x"), ("put", 0, True),
            ("put", -10, "x"), ("put", 10 ** 12 + 1, "x"), ("put", 10 ** 39, "x"), ("put", -10 ** 39, "x"),
            ("out",), ("out", 1, "x"), ("out", True), ("out", False), ("out", None), ("out", "1"), ("out", -10),
            ("out", 10 ** 12 + 1), ("out", (0,)), ("out", [0]),
            ("set",), ("set", 1), ("set", 1, "x", "y"), ("set", 1, "xy"), ("set", False, "x"), ("set", -10, "x"),
            ("set", 10 ** 12 + 1, "x"), ("set", 1, "x\n"), ("stay", 0), ("stay", None), ("stay", "x"),
            ("Put", 1, "x"), ("in", 1, "x"), ("", 1, "x"), ("put ", 1, "x"), (b"out", 1), (("out",), 1), (None, 1),
            (0, "out"), (True,), ("keep",), ("up",),
            ["put", 1, "x"], ["out", 1], ["stay"], "stay", "put", ("stay", ()), (("stay",),), nested(8),
        ):
            self.refused_given(InvalidEdit, edit, done, "abc", edit)

    def test_the_order_of_the_errors(self):
        self.refused_given(InvalidText, "A", done, "A", ("none",))
        self.refused_given(InvalidText, None, done, None, ("out", 5))
        self.refused_given(InvalidText, "A", done, "A", ("out", 1))
        edit = ("out", -10)
        self.refused_given(InvalidEdit, edit, done, "", edit)

    def test_by_position_and_by_name(self):
        edit = ("put", 1, "x")
        self.assertEqual(done("ab", edit=edit), "axb")
        self.assertEqual(done(text="ab", edit=edit), "axb")
        self.assertEqual(done(edit=edit, text="ab"), "axb")
        self.refused_given(InvalidText, 5, done, edit=edit, text=5)
        self.refused_given(InvalidEdit, "ab", done, edit="ab", text="ab")

    def test_a_second_call_returns_the_same(self):
        edit = ["out", 0]
        self.refused_given(InvalidEdit, edit, done, "ab", edit)
        self.assertEqual(edit, ["out", 0])
        self.assertEqual([done("ab", ("out", 0)), done("ab", ("out", 0))], ["b", "b"])
        self.assertIs(type(done("ab", ("out", 0))), str)


if __name__ == "__main__":
    unittest.main()
