"""Points [12] and [13]: applying, chaining and matching."""

import itertools
import random
import unittest

from muffline.patterns import apply_bindings, apply_to_row, chain_bindings, match_term
from muffline.terms import levels_of
from tests import plain, samples

A, B, C = ("mark", 0, "a"), ("word", "b"), ("host", "c")
X, Y, Z = ("var", 0, "x"), ("var", 0, "y"), ("var", 1, "x")
V = ("var", 9, "v")


def pair(first, second):
    return ("pair", first, second)


def digest(term):
    return ("digest", term)


def term_by_chance(chance, depth, leaves):
    kind = chance.choice(("leaf", "pair", "pair", "lock", "digest", "box", "stamp")) if depth else "leaf"
    if kind == "leaf":
        return chance.choice(leaves)
    inner = [term_by_chance(chance, depth - 1, leaves) for _ in range(plain.PLACES[kind])]
    return (kind, *inner, *([chance.choice(("ann", "bob"))] if kind in ("box", "stamp") else []))


class Applying(unittest.TestCase):
    def test_nothing(self):
        for term in samples.good_terms():
            self.assertEqual(apply_bindings((), term), term)
        self.assertEqual(apply_bindings(((X, A),), pair(Y, Z)), pair(Y, Z))

    def test_each_place(self):
        for wrap in samples.WRAPS:
            self.assertEqual(apply_bindings(((X, pair(A, B)),), wrap(X)), wrap(pair(A, B)))
            self.assertEqual(apply_bindings(((X, pair(A, B)),), wrap(wrap(X))), wrap(wrap(pair(A, B))))
        self.assertEqual(apply_bindings(((X, A),), X), A)

    def test_all_at_the_same_time(self):
        self.assertEqual(apply_bindings(((X, Y), (Y, X)), pair(X, Y)), pair(Y, X))
        self.assertEqual(apply_bindings(((X, Y), (Y, A)), pair(X, Y)), pair(Y, A))
        self.assertEqual(apply_bindings(((X, A), (Y, X)), pair(X, Y)), pair(A, X))
        self.assertEqual(apply_bindings(((X, pair(X, Y)), (Y, digest(X))), pair(X, X)), pair(pair(X, Y), pair(X, Y)))

    def test_each_once(self):
        self.assertEqual(apply_bindings(((X, digest(X)),), pair(X, digest(X))), pair(digest(X), digest(digest(X))))

    def test_like_variables_are_distinct(self):
        term = pair(X, pair(Z, ("mark", 0, "x")))
        self.assertEqual(apply_bindings(((X, A),), term), pair(A, pair(Z, ("mark", 0, "x"))))
        self.assertEqual(apply_bindings(((Z, A),), term), pair(X, pair(A, ("mark", 0, "x"))))

    def test_rows(self):
        self.assertEqual(apply_to_row(((X, A),), ()), ())
        self.assertEqual(apply_to_row((), (X, A)), (X, A))
        self.assertEqual(apply_to_row(((X, Y), (Y, B)), (X, digest(Y), A, X)), (Y, digest(B), A, Y))

    def test_large_ones(self):
        deep = samples.deep(X, 150)
        self.assertEqual(apply_bindings(((X, pair(A, B)),), deep), samples.deep(pair(A, B), 150))
        value = apply_bindings(((X, samples.doubled(Y, 9)),), samples.doubled(X, 9))
        self.assertEqual(value, samples.doubled(Y, 18))
        value = apply_bindings(((X, samples.deep(A, 199)),), samples.deep(X, 199))
        self.assertEqual(levels_of(value), 399)

    def test_same_as_plain(self):
        chance = random.Random(31)
        for _ in range(1000):
            found = plain.in_order([(v, term_by_chance(chance, 2, (A, X, Y, Z))) for v in (X, Y, Z) if chance.random() < 0.6])
            term = term_by_chance(chance, 4, (A, B, X, Y, Z))
            self.assertEqual(apply_bindings(found, term), plain.apply(found, term))
            self.assertEqual(apply_to_row(found, (term, X)), (plain.apply(found, term), plain.apply(found, X)))


class Chaining(unittest.TestCase):
    def test_few(self):
        self.assertEqual(chain_bindings((), ()), ())
        self.assertEqual(chain_bindings(((X, A),), ()), ((X, A),))
        self.assertEqual(chain_bindings((), ((X, A),)), ((X, A),))
        self.assertEqual(chain_bindings(((X, digest(Y)),), ((Y, A),)), ((X, digest(A)), (Y, A)))
        self.assertEqual(chain_bindings(((X, Y),), ((Y, pair(Z, Z)),)), ((X, pair(Z, Z)), (Y, pair(Z, Z))))

    def test_ascending(self):
        self.assertEqual(chain_bindings(((Z, A),), ((X, B), (Y, C))), ((X, B), (Y, C), (Z, A)))
        self.assertEqual(chain_bindings(((X, B), (Z, A)), ((Y, C),)), ((X, B), (Y, C), (Z, A)))
        names = [("var", 0, "a"), ("var", 0, "aa"), ("var", 0, "ab"), ("var", 0, "b"), ("var", 1, "a"), ("var", 9, "a")]
        for many in range(7):
            for group in itertools.combinations(names, many):
                first = tuple((v, A) for v in group)
                second = tuple((v, B) for v in names if v not in group)
                expected = tuple((v, A if v in group else B) for v in names)
                self.assertEqual(chain_bindings(first, second), expected)

    def test_the_effect_of_both(self):
        chance = random.Random(32)
        names = [("var", session, name) for session in (0, 1) for name in ("x", "y", "z", "xx")]
        for _ in range(500):
            chance.shuffle(names)
            bound, middle, free = names[:2], names[2:5], names[5:]
            first = plain.in_order([(v, term_by_chance(chance, 2, (A, *middle, *free))) for v in bound])
            second = plain.in_order([(v, term_by_chance(chance, 2, (A, B, *free))) for v in middle])
            chained = chain_bindings(first, second)
            self.assertEqual([v for v, _ in chained], sorted([v for v, _ in first + second], key=plain.rank))
            for _ in range(5):
                term = term_by_chance(chance, 3, (A, *names))
                self.assertEqual(apply_bindings(chained, term), apply_bindings(second, apply_bindings(first, term)))


class Matching(unittest.TestCase):
    def test_ground_patterns(self):
        for term in (A, B, C, pair(A, B), ("lock", A, B), ("box", A, "ann"), ("stamp", A, "ann"), ("both", "ann", "bob")):
            self.assertEqual(match_term(term, term, ()), ())
            for other in (A, B, pair(A, C), pair(B, B), ("lock", B, A), ("box", A, "bob"), ("stamp", A, "bob"),
                          ("box", B, "ann"), ("stamp", C, "ann"), ("mark", 1, "a"), ("both", "ann", "ann"), ("word", "a")):
                if other != term:
                    self.assertIsNone(match_term(term, other, ()), (term, other))

    def test_variables(self):
        self.assertEqual(match_term(X, pair(A, B), ()), ((X, pair(A, B)),))
        self.assertEqual(match_term(pair(Y, X), pair(A, B), ()), ((X, B), (Y, A)))
        for wrap in samples.WRAPS:
            self.assertEqual(match_term(wrap(X), wrap(digest(A)), ()), ((X, digest(A)),))

    def test_a_variable_that_occurs_twice(self):
        self.assertEqual(match_term(pair(X, X), pair(A, A), ()), ((X, A),))
        self.assertIsNone(match_term(pair(X, X), pair(A, B), ()))
        self.assertEqual(match_term(pair(X, digest(X)), pair(pair(A, B), digest(pair(A, B))), ()), ((X, pair(A, B)),))
        self.assertIsNone(match_term(pair(X, digest(X)), pair(pair(A, B), digest(pair(B, A))), ()))
        self.assertIsNone(match_term(("lock", X, X), ("lock", B, A), ()))

    def test_given_bindings(self):
        self.assertEqual(match_term(X, A, ((X, A),)), ((X, A),))
        self.assertIsNone(match_term(X, B, ((X, A),)))
        self.assertEqual(match_term(pair(X, Y), pair(A, B), ((X, A),)), ((X, A), (Y, B)))
        self.assertIsNone(match_term(pair(Y, X), pair(A, B), ((X, A),)))
        self.assertEqual(match_term(digest(X), digest(pair(A, A)), ((X, pair(A, A)),)), ((X, pair(A, A)),))

    def test_bindings_that_the_pattern_has_not_stay(self):
        given = ((X, digest(A)), (V, B))
        self.assertEqual(match_term(A, A, given), given)
        self.assertEqual(match_term(Y, C, given), ((X, digest(A)), (Y, C), (V, B)))
        self.assertIsNone(match_term(A, B, given))

    def test_another_form(self):
        for pattern, term in ((pair(X, Y), ("lock", A, B)), (("lock", X, Y), pair(A, B)), (digest(X), A), (digest(X), pair(A, B)),
                              (("box", X, "ann"), ("box", A, "bob")), (("stamp", X, "ann"), ("stamp", A, "bob")),
                              (("box", X, "ann"), ("stamp", A, "ann")), (("stamp", X, "ann"), digest(A)),
                              (pair(digest(X), A), pair(A, A)), (pair(X, A), pair(A, B))):
            self.assertIsNone(match_term(pattern, term, ()))

    def test_deep_ones(self):
        self.assertEqual(match_term(samples.deep(X, 190), samples.deep(digest(A), 190), ()), ((X, digest(A)),))
        self.assertIsNone(match_term(samples.deep(("digest", X), 190), samples.deep(A, 190), ()))
        deep = samples.deep(A, 190)
        self.assertEqual(match_term(pair(X, X), pair(deep, deep), ()), ((X, deep),))
        self.assertIsNone(match_term(pair(X, X), pair(deep, samples.deep(B, 190)), ()))

    def test_same_as_plain(self):
        chance = random.Random(33)
        matched = 0
        for _ in range(4000):
            pattern = term_by_chance(chance, 3, (A, X, Y, Z))
            filling = [(v, term_by_chance(chance, 1, (A, B))) for v in (X, Y, Z)]
            term = plain.apply(filling, pattern)
            if chance.random() < 0.5:
                term = term_by_chance(chance, 2, (A, B)) if chance.random() < 0.5 else spoil(chance, term)
            given = plain.in_order([(v, value if chance.random() < 0.9 else C) for v, value in filling if chance.random() < 0.3])
            table = dict(given)
            expected = None
            if plain.match(pattern, term, table):
                expected = plain.in_order(table.items())
                matched += 1
                self.assertEqual(apply_bindings(expected, pattern), term)
            self.assertEqual(match_term(pattern, term, given), expected)
        self.assertGreater(matched, 1000)


def spoil(chance, term):
    """Change one leaf of a term."""
    inner = [at for at, item in enumerate(term) if isinstance(item, tuple)]
    if not inner:
        return chance.choice((A, B, C))
    at = chance.choice(inner)
    return term[:at] + (spoil(chance, term[at]),) + term[at + 1:]


class General(unittest.TestCase):
    def test_parameter_names(self):
        self.assertEqual(apply_bindings(bindings=((X, A),), term=X), A)
        self.assertEqual(apply_to_row(bindings=((X, A),), row=(X,)), (A,))
        self.assertEqual(chain_bindings(first=((X, Y),), second=((Y, A),)), ((X, A), (Y, A)))
        self.assertEqual(match_term(pattern=X, term=A, bindings=()), ((X, A),))


if __name__ == "__main__":
    unittest.main()
