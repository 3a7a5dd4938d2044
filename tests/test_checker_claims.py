"""checker.accepts: claims of other forms, and values of any sort ([5], [16])."""

import unittest

from helping import nested, odd_values, plain, stubborn_values
from passedits.books import Book
from passedits.checker import accepts
from passedits.tables import Table
from test_checker_papers import BARE, OUTS, PLAIN, PUTS, right_papers
from test_mends import WRONG_WISHES

CERTIFICATES = [certificate for _, certificate in right_papers()]
WRONG_TEXTS = (
    "", "kinds", "kinds ", "put", "kinds put\n", "kinds put ", " kinds put", "kinds  put", "kinds out put",
    "kinds stay", "kinds put put", "kinds put\nput put", "kinds put\nput put >", "kinds put\nput put > up\nput put > up",
    "kinds put\nput out > up", "kinds put\nput put > put", "kinds put\nput put > first:up", "kinds put\n\nput put > up",
    "kinds put\nput put > first:keep first:keep first:keep first:keep first:keep up", "kinds put\nput  put > up",
    "Kinds put", "kinds put\\nput put > up", "a" * 4000, "put put > up", None, 0, True, (), ("kinds put",),
    ["kinds put"], b"kinds put", ("kinds put", "put put > up"), {"kinds put"}, Table(("put",)), plain(), Book(),
)


class Claims(unittest.TestCase):
    def asks_for_none(self, claim):
        """Asks that no certificate at all is accepted for the claim."""
        for certificate in CERTIFICATES:
            if accepts(claim, certificate) is not False:
                self.fail(f"{claim!r}, {certificate!r}")

    def test_values_of_any_sort(self):
        values = odd_values() + stubborn_values() + [nested(10), Book(), plain(), PLAIN]
        for claim in values:
            self.asks_for_none(claim)
            for certificate in values:
                self.assertIs(accepts(claim, certificate), False)
        for claim, right in right_papers():
            for certificate in values:
                # The empty tuple is among these values.
                expected = right == () and type(certificate) is tuple and len(certificate) == 0
                self.assertIs(accepts(claim, certificate), expected)

    def test_values_of_any_sort_within_a_claim(self):
        for value in odd_values() + stubborn_values():
            for claim in ((value,), (value, PLAIN), (value, PLAIN, 2), (value, PLAIN, "puts", 2), (value, PLAIN, PUTS),
                          ("holds", PLAIN, value), ("holds", value, ("sure",)), ("parts", PLAIN, (value,)),
                          ("breaks", PLAIN, value, 2), ("differ", value, PUTS), ("differ", PUTS, value),
                          ("unsure", value), ("holds", PLAIN, (value, 2)), ("holds", PLAIN, ("keeps", value, 2))):
                self.asks_for_none(claim)

    def test_values_of_any_sort_within_a_certificate(self):
        for claim, _ in right_papers():
            for value in odd_values() + stubborn_values():
                for certificate in ((value,), (value,) * 3, (value,) * 4, ("ab", value, (0, 1)),
                                    ("ab", (value, value), (0, 1), (1, 0)), ("ab", (value,) * 3, (0, 1, 2))):
                    self.assertIs(accepts(claim, certificate), False)

    def test_other_words(self):
        for word in ("Holds", "hold", "holds ", " holds", "HOLDS", "part", "meets", "parted", "broken", "break", "sure",
                     "unlike", "alike", "differs", "keeps", "", "parts\n", "holdsparts", ("holds",), b"holds", None, 1):
            self.asks_for_none((word, PLAIN, ("meets", 2)))
            self.asks_for_none((word, PLAIN, 3))
            self.asks_for_none((word, BARE, 2))
            self.asks_for_none((word, OUTS, "outs", 2))
            self.asks_for_none((word, PLAIN))
            self.asks_for_none((word, PUTS, BARE))

    def test_one_element_more_or_less(self):
        for claim, certificate in right_papers():
            self.assertIs(accepts(claim, certificate), True)
            for many in range(len(claim)):
                self.asks_for_none(claim[:many])
                self.asks_for_none(claim[many + 1:])
            for more in (2, 3, None, "", "puts", ("sure",), (), PLAIN, claim[-1]):
                self.asks_for_none(claim + (more,))
                self.asks_for_none((more,) + claim)

    def test_other_texts(self):
        for text in WRONG_TEXTS:
            for claim in (("holds", text, ("sure",)), ("parts", text, 2), ("parts", text, 3),
                          ("breaks", text, "puts", 2), ("breaks", text, "outs", 3), ("unsure", text),
                          ("differ", text, BARE), ("differ", PUTS, text), ("differ", text, text)):
                self.asks_for_none(claim)

    def test_other_wishes(self):
        for wish in list(WRONG_WISHES) + odd_values() + [("plain", ("meets", 2)), ("alike", "a", "a"), ("parts", 2)]:
            self.assertIs(accepts(("holds", PUTS, wish), ()), False, wish)

    def test_claims_that_are_lists(self):
        for claim, certificate in right_papers():
            for other in (list(claim), dict.fromkeys(claim), "".join(map(str, claim)), str(claim), iter(claim),
                          (claim,), (claim, certificate), range(len(claim)), len(claim)):
                self.assertIs(accepts(other, certificate), False)


if __name__ == "__main__":
    unittest.main()
