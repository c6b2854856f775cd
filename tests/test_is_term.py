"""Point [3]: which values are terms."""

import unittest

from muffline.terms import is_term
from tests import samples


class GoodTerms(unittest.TestCase):
    def test_every_form(self):
        for term in samples.good_terms():
            self.assertIs(is_term(term), True, term)

    def test_bounds(self):
        for term in (
            ("host", "a"), ("host", "zzzzzzzz"), ("word", "a"), ("word", "zzzzzzzz"), ("own", "a"), ("own", "zzzzzzzz"),
            ("road", 0), ("road", 999999), ("mark", 0, "a"), ("mark", 9, "zzzzzzzz"), ("var", 0, "a"),
            ("var", 9, "zzzzzzzz"), ("both", "a", "a"), ("both", "a", "b"), ("both", "a", "aa"),
            ("both", "zzzzzzzz", "zzzzzzzz"), ("box", ("word", "w"), "a"), ("stamp", ("word", "w"), "zzzzzzzz"),
        ):
            self.assertIs(is_term(term), True, term)

    def test_all_letters(self):
        for letter in "abcdefghijklmnopqrstuvwxyz":
            self.assertIs(is_term(("host", letter)), True)

    def test_deep(self):
        for term in samples.PLAIN_FORMS:
            for wrap in samples.WRAPS:
                self.assertIs(is_term(samples.deep(term, 199, (wrap,))), True)
            self.assertIs(is_term(samples.deep(term, 199)), True)

    def test_large(self):
        self.assertIs(is_term(samples.doubled(("host", "a"), 10)), True)


class WrongValues(unittest.TestCase):
    def test_spoilt_alone(self):
        for value in samples.spoilt_terms():
            self.assertIs(is_term(value), False, value)

    def test_spoilt_within(self):
        for value in samples.spoilt_terms():
            for wrap in samples.WRAPS:
                self.assertIs(is_term(wrap(value)), False, value)
            self.assertIs(is_term(samples.deep(value, 7)), False, value)

    def test_spoilt_deep_within(self):
        for value in samples.BAD_TERMS[:12] + (("host", ""), ("road", -1), ("both", "b", "a"), ("pair", ("host", "a"))):
            for wrap in samples.WRAPS:
                self.assertIs(is_term(samples.deep(value, 190, (wrap,))), False)
                self.assertIs(is_term(samples.deep(value, 198, (wrap,))), False)

    def test_spoilt_beside_a_good_one(self):
        good = samples.deep(samples.MARK, 20)
        for value in (None, (), "a", ("host",), ("mark", 10, "a")):
            for term in (("pair", good, value), ("pair", value, good), ("lock", good, value), ("lock", value, good)):
                self.assertIs(is_term(term), False)

    def test_signs_beside_the_letters(self):
        for sign in (chr(code) for code in range(128)):
            expected = "a" <= sign <= "z"
            for name in (sign, "a" + sign, sign + "a", "a" + sign + "a"):
                self.assertIs(is_term(("word", name)), expected, name)

    def test_no_terms(self):
        nested = ()
        for _ in range(199):
            nested = (nested,)
        for value in (None, 0, 7, -1, "", "host", "(host ann)", (), ((),), nested, (None,) * 9999, ("host",) * 9999,
                      ("host", nested), (nested, "a"), ("pair", nested, nested)):
            self.assertIs(is_term(value), False)

    def test_recipes(self):
        for value in (
            ("letter", 0), ("free", ("host", "ann")), ("left", ("letter", 0)), ("right", ("letter", 0)),
            ("unstamp", ("letter", 0), "ann"), ("unlock", ("letter", 0), ("letter", 1)),
            ("unbox", ("letter", 0), ("letter", 1), "ann"), ("stamp", ("letter", 0), ("letter", 1), "ann"),
            ("pair", ("letter", 0), ("letter", 1)), ("lock", ("letter", 0), ("letter", 1)),
            ("digest", ("letter", 0)), ("box", ("letter", 0), "ann"),
        ):
            self.assertIs(is_term(value), False, value)

    def test_role_terms(self):
        for value in (
            ("host", "A"), ("own", "A"), ("both", "A", "B"), ("both", "ann", "B"), ("both", "A", "ann"),
            ("mark", "n"), ("var", "x"), ("box", ("word", "w"), "A"), ("stamp", ("word", "w"), "A"),
            ("digest", ("mark", "n")), ("lock", ("var", "x"), ("both", "A", "B")), ("both", "bob", "ann"),
        ):
            self.assertIs(is_term(value), False, value)

    def test_equal_calls(self):
        for value in (samples.deep(samples.VAR, 150), ("pair", samples.VAR)):
            self.assertIs(is_term(value), is_term(value))


if __name__ == "__main__":
    unittest.main()
