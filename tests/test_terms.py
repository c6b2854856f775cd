"""Points [3], [4] and [5]: atoms, sizes, parts, variables and the order of terms."""

import itertools
import unittest

from muffline import terms
from muffline.terms import (
    in_order, is_atom, is_ground, is_less, key_of, parts, parts_of_row, size, variables,
)
from tests import samples
from tests.samples import ANN, BOB, HI, KEY, MARK, VAR

X = ("var", 0, "x")
Y = ("var", 0, "y")
LOCK = ("lock", MARK, KEY)


def plain_written(value):
    if isinstance(value, tuple):
        return "(" + " ".join([plain_written(item) for item in value]) + ")"
    return str(value)


def plain_parts(term):
    """All parts of a term from left to right, with repetitions."""
    found = [term]
    for item in term:
        if isinstance(item, tuple):
            found += plain_parts(item)
    return found


def without_repetitions(found):
    return tuple(term for at, term in enumerate(found) if term not in found[:at])


class Kinds(unittest.TestCase):
    def test_atoms(self):
        for term in (ANN, HI, ("road", 0), ("own", "ann"), KEY, ("both", "a", "a"), MARK):
            self.assertIs(is_atom(term), True, term)

    def test_a_variable_is_no_atom(self):
        self.assertIs(is_atom(VAR), False)

    def test_composed_terms_are_no_atoms(self):
        for term in (("pair", ANN, BOB), LOCK, ("digest", ANN), ("box", ANN, "ann"), ("stamp", ANN, "ann")):
            self.assertIs(is_atom(term), False, term)

    def test_ground(self):
        for term in samples.PLAIN_FORMS:
            for wrap in samples.WRAPS:
                self.assertIs(is_ground(wrap(term)), term != VAR)
                self.assertIs(is_ground(wrap(wrap(term))), term != VAR)
            self.assertIs(is_ground(term), term != VAR)

    def test_ground_with_var_as_a_name(self):
        for term in (("word", "var"), ("host", "var"), ("mark", 0, "var"), ("box", HI, "var"), ("own", "var")):
            self.assertIs(is_ground(term), True)

    def test_ground_deep(self):
        for wrap in samples.WRAPS:
            self.assertIs(is_ground(samples.deep(MARK, 198, (wrap,))), True)
            self.assertIs(is_ground(samples.deep(VAR, 198, (wrap,))), False)


class Sizes(unittest.TestCase):
    def test_atoms_and_variables(self):
        for term in samples.PLAIN_FORMS:
            self.assertEqual(size(term), 1)

    def test_composed(self):
        for term, expected in (
            (("pair", ANN, BOB), 3), (LOCK, 3), (("digest", ANN), 2), (("box", ANN, "ann"), 2),
            (("stamp", ANN, "ann"), 2), (("pair", ("digest", ANN), LOCK), 6), (("box", LOCK, "bob"), 4),
            (("stamp", ("box", ("pair", X, X), "ann"), "bob"), 5),
        ):
            self.assertEqual(size(term), expected, term)

    def test_deep(self):
        self.assertEqual(size(samples.deep(MARK, 198, (samples.WRAPS[4],))), 199)
        self.assertEqual(size(samples.deep(MARK, 199, (samples.WRAPS[0],))), 399)
        self.assertEqual(size(samples.deep(MARK, 199, (samples.WRAPS[3],))), 399)

    def test_doubled(self):
        self.assertEqual(size(samples.doubled(MARK, 9)), 1023)
        self.assertEqual(size(samples.doubled(("digest", MARK), 9)), 1535)
        self.assertEqual(size(samples.doubled(samples.deep(MARK, 29, (samples.WRAPS[4],)), 6)), 1983)

    def test_same_as_counting(self):
        for term in samples.good_terms():
            self.assertEqual(size(term), len(plain_parts(term)))


class Parts(unittest.TestCase):
    def test_plain(self):
        for term in samples.PLAIN_FORMS:
            self.assertEqual(parts(term), (term,))

    def test_lock_gives_content_ahead_of_key(self):
        self.assertEqual(parts(LOCK), (LOCK, MARK, KEY))
        other = ("lock", KEY, MARK)
        self.assertEqual(parts(other), (other, KEY, MARK))

    def test_each_form(self):
        pair = ("pair", BOB, ANN)
        for term in (("digest", pair), ("box", pair, "ann"), ("stamp", pair, "ann")):
            self.assertEqual(parts(term), (term, pair, BOB, ANN))
        term = ("pair", pair, HI)
        self.assertEqual(parts(term), (term, pair, BOB, ANN, HI))
        term = ("pair", HI, pair)
        self.assertEqual(parts(term), (term, HI, pair, BOB, ANN))
        term = ("lock", pair, ("digest", HI))
        self.assertEqual(parts(term), (term, pair, BOB, ANN, ("digest", HI), HI))

    def test_each_part_once(self):
        digest = ("digest", X)
        term = ("pair", ("pair", digest, X), ("pair", Y, digest))
        self.assertEqual(parts(term), (term, term[1], digest, X, term[2], Y))
        term = ("pair", X, ("pair", digest, X))
        self.assertEqual(parts(term), (term, X, term[2], digest))

    def test_names_are_no_parts(self):
        self.assertEqual(parts(("box", HI, "ann")), (("box", HI, "ann"), HI))
        self.assertEqual(parts(("stamp", HI, "ann")), (("stamp", HI, "ann"), HI))

    def test_like_terms_are_distinct(self):
        term = ("pair", ("mark", 1, "a"), ("pair", ("var", 1, "a"), ("mark", 2, "a")))
        self.assertEqual(len(parts(term)), 5)
        term = ("pair", ("road", 1), ("pair", ("road", 11), ("pair", ("both", "a", "aa"), ("both", "aa", "aa"))))
        self.assertEqual(len(parts(term)), 7)

    def test_rows(self):
        self.assertEqual(parts_of_row(()), ())
        self.assertEqual(parts_of_row((LOCK,)), (LOCK, MARK, KEY))
        self.assertEqual(parts_of_row((LOCK, LOCK)), (LOCK, MARK, KEY))
        self.assertEqual(parts_of_row((KEY, LOCK, HI)), (KEY, LOCK, MARK, HI))
        self.assertEqual(parts_of_row((HI, ANN, HI, ("digest", ANN), ANN)), (HI, ANN, ("digest", ANN)))
        self.assertEqual(parts_of_row((("digest", ANN), LOCK, ("digest", MARK))),
                         (("digest", ANN), ANN, LOCK, MARK, KEY, ("digest", MARK)))

    def test_same_as_listing(self):
        found = samples.good_terms()
        for first, second in zip(found, reversed(found)):
            self.assertEqual(parts(first), without_repetitions(plain_parts(first)))
            row = (first, second, ("pair", second, first))
            listed = [part for term in row for part in plain_parts(term)]
            self.assertEqual(parts_of_row(row), without_repetitions(listed))
            self.assertIsInstance(parts(first), tuple)

    def test_deep(self):
        for wrap in samples.WRAPS:
            term = samples.deep(X, 198, (wrap,))
            self.assertEqual(parts(term), without_repetitions(plain_parts(term)))
        term = samples.deep(X, 198, (samples.WRAPS[4],))
        found = parts(term)
        self.assertEqual(len(found), 199)
        self.assertEqual((found[0], found[197], found[198]), (term, ("digest", X), X))

    def test_doubled(self):
        term = samples.doubled(("digest", X), 9)
        found = parts(term)
        self.assertEqual(len(found), 11)
        self.assertEqual((found[0], found[1], found[-2], found[-1]), (term, term[1], ("digest", X), X))


class Variables(unittest.TestCase):
    def test_none(self):
        for term in (ANN, MARK, LOCK, ("word", "var")):
            self.assertEqual(variables(term), ())

    def test_one(self):
        self.assertEqual(variables(X), (X,))
        for wrap in samples.WRAPS:
            self.assertEqual(variables(wrap(X)), (X,))

    def test_each_once(self):
        self.assertEqual(variables(("lock", ("pair", X, X), ("digest", X))), (X,))

    def test_ascending(self):
        expected = (("var", 0, "a"), ("var", 0, "ab"), ("var", 0, "b"), ("var", 1, "a"), ("var", 9, "a"))
        for order in itertools.permutations(expected):
            a, b, c, d, e = order
            self.assertEqual(variables(("pair", ("lock", ("box", a, "ann"), b), ("pair", ("pair", c, d), e))), expected)

    def test_deep(self):
        for wrap in samples.WRAPS:
            term = samples.deep(("pair", Y, X), 197, (wrap,))
            self.assertEqual(variables(term), (X, Y))
        self.assertEqual(variables(samples.doubled(("pair", Y, X), 8)), (X, Y))


class WrittenForms(unittest.TestCase):
    def test_each_form(self):
        for term, text in (
            (ANN, "(host ann)"), (HI, "(word hi)"), (("road", 0), "(road 0)"), (("road", 999999), "(road 999999)"),
            (("own", "ann"), "(own ann)"), (KEY, "(both ann bob)"), (("mark", 0, "n"), "(mark 0 n)"),
            (("mark", 9, "zzzzzzzz"), "(mark 9 zzzzzzzz)"), (("var", 1, "x"), "(var 1 x)"),
            (("pair", ANN, BOB), "(pair (host ann) (host bob))"), (LOCK, "(lock (mark 0 n) (both ann bob))"),
            (("digest", HI), "(digest (word hi))"), (("box", HI, "ann"), "(box (word hi) ann)"),
            (("stamp", HI, "ann"), "(stamp (word hi) ann)"),
            (("stamp", ("pair", ("digest", HI), X), "ann"), "(stamp (pair (digest (word hi)) (var 0 x)) ann)"),
        ):
            self.assertEqual(key_of(term), text)

    def test_same_as_writing(self):
        for term in samples.good_terms():
            self.assertEqual(key_of(term), plain_written(term))

    def test_deep(self):
        term = samples.deep(MARK, 199, (samples.WRAPS[4],))
        self.assertEqual(key_of(term), "(digest " * 199 + "(mark 0 n)" + ")" * 199)
        for wrap in samples.WRAPS:
            term = samples.deep(MARK, 199, (wrap,))
            self.assertEqual(key_of(term), plain_written(term))

    def test_doubled(self):
        term = samples.doubled(MARK, 9)
        self.assertEqual(key_of(term), plain_written(term))


ASCENDING = (
    ("both", "a", "a"), ("both", "a", "aa"), ("both", "a", "b"), ("both", "aa", "aa"), ("host", "a"), ("host", "aa"),
    ("host", "ab"), ("host", "b"), ("host", "zzzzzzzz"), ("mark", 0, "a"), ("mark", 0, "b"), ("mark", 1, "a"),
    ("own", "a"), ("road", 0), ("road", 1), ("road", 10), ("road", 100000), ("road", 11), ("road", 2), ("road", 99),
    ("road", 999), ("var", 0, "x"), ("var", 0, "xx"), ("var", 0, "y"), ("var", 9, "a"), ("word", "z"),
    ("box", ("word", "z"), "a"), ("digest", ("host", "a")), ("digest", ("word", "a")), ("stamp", ("host", "a"), "a"),
    ("stamp", ("host", "a"), "ab"), ("stamp", ("host", "a"), "b"), ("stamp", ("host", "aa"), "a"),
    ("box", ("digest", ("host", "a")), "a"), ("lock", ("word", "z"), ("word", "z")),
    ("pair", ("host", "a"), ("word", "z")), ("pair", ("host", "b"), ("host", "a")),
    ("pair", ("digest", ("host", "a")), ("word", "z")), ("pair", ("word", "z"), ("digest", ("host", "a"))),
    ("digest", ("digest", ("digest", ("digest", ("host", "a"))))),
)


class Order(unittest.TestCase):
    def test_is_less(self):
        for at, first in enumerate(ASCENDING):
            for place, second in enumerate(ASCENDING):
                self.assertIs(is_less(first, second), at < place, (first, second))

    def test_size_decides_first(self):
        self.assertIs(is_less(("word", "zzzzzzzz"), ("box", ("host", "a"), "a")), True)
        self.assertIs(is_less(("box", ("host", "a"), "a"), ("word", "zzzzzzzz")), False)
        self.assertIs(is_less(("digest", ("mark", 0, "abcdefgh")), ("box", ("box", ANN, "a"), "a")), True)

    def test_written_form_decides_then(self):
        self.assertIs(is_less(("road", 10), ("road", 2)), True)
        self.assertIs(is_less(("road", 2), ("road", 10)), False)
        self.assertIs(is_less(("road", 1), ("road", 10)), True)
        self.assertIs(is_less(("pair", ("road", 10), HI), ("pair", ("road", 9), ANN)), True)

    def test_not_less_than_itself(self):
        for term in samples.good_terms():
            self.assertIs(is_less(term, term), False)
        deep = samples.deep(MARK, 198)
        self.assertIs(is_less(deep, deep), False)

    def test_deep(self):
        for wrap in samples.WRAPS:
            first = samples.deep(("mark", 0, "a"), 198, (wrap,))
            second = samples.deep(("mark", 0, "aa"), 198, (wrap,))
            self.assertIs(is_less(first, second), True)
            self.assertIs(is_less(second, first), False)
            self.assertIs(is_less(second, wrap(first)), True)
            self.assertIs(is_less(wrap(first), second), False)

    def test_in_order(self):
        self.assertEqual(in_order(ASCENDING[::-1]), ASCENDING)
        self.assertEqual(in_order(ASCENDING), ASCENDING)
        self.assertEqual(in_order(ASCENDING[20:] + ASCENDING[:20]), ASCENDING)

    def test_in_order_of_few(self):
        self.assertEqual(in_order(()), ())
        self.assertEqual(in_order((LOCK,)), (LOCK,))
        expected = (("road", 10), ("road", 2), ("digest", HI))
        for row in itertools.permutations(expected):
            self.assertEqual(in_order(row), expected)

    def test_in_order_keeps_repetitions(self):
        self.assertEqual(in_order((LOCK, HI, LOCK, ANN, HI, HI)), (ANN, HI, HI, HI, LOCK, LOCK))
        self.assertEqual(in_order((VAR, VAR)), (VAR, VAR))

    def test_in_order_of_large_terms(self):
        first = samples.deep(ANN, 150)
        second = samples.deep(BOB, 150)
        third = samples.doubled(ANN, 9)
        self.assertEqual(in_order((third, second, first, third)), (first, second, third, third))


class General(unittest.TestCase):
    def test_equal_calls_give_equal_results(self):
        term = samples.deep(VAR, 40)
        for name in ("is_term", "is_atom", "is_ground", "size", "parts", "variables", "key_of"):
            function = getattr(terms, name)
            self.assertEqual(function(term), function(term))

    def test_parameter_names(self):
        self.assertIs(terms.is_term(value=ANN), True)
        self.assertIs(terms.is_atom(term=ANN), True)
        self.assertIs(terms.is_ground(term=ANN), True)
        self.assertEqual(terms.size(term=ANN), 1)
        self.assertEqual(terms.parts(term=ANN), (ANN,))
        self.assertEqual(terms.parts_of_row(row=(ANN,)), (ANN,))
        self.assertEqual(terms.variables(term=ANN), ())
        self.assertEqual(terms.key_of(term=ANN), "(host ann)")
        self.assertIs(terms.is_less(first=ANN, second=BOB), True)
        self.assertEqual(terms.in_order(row=(BOB, ANN)), (ANN, BOB))


if __name__ == "__main__":
    unittest.main()
