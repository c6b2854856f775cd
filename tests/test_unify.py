"""Point [14]: the most general binding row that makes terms equal."""

import itertools
import random
import unittest

from muffline.errors import TooLarge
from muffline.patterns import apply_bindings, unify, unify_rows
from muffline.terms import levels_of, size
from tests import plain, samples
from tests.test_patterns import A, B, V, X, Y, Z, digest, pair, term_by_chance


def chain_names(letter):
    return [("var", 0, letter + chr(97 + at)) for at in range(26)]


class Few(unittest.TestCase):
    def both_ways(self, first, second, expected):
        self.assertEqual(unify(first, second), expected)
        self.assertEqual(unify(second, first), expected)
        self.assertEqual(unify_rows((first,), (second,)), expected)
        self.assertEqual(plain.unify_rows((first,), (second,)), expected)

    def test_example(self):
        z = ("var", 0, "z")
        self.both_ways(pair(X, digest(Y)), pair(Y, z), ((Y, X), (z, digest(X))))

    def test_equal_terms(self):
        for term in samples.good_terms():
            self.assertEqual(unify(term, term), ())
        self.assertEqual(unify_rows((), ()), ())
        self.assertEqual(unify_rows((X, pair(X, Y)), (X, pair(X, Y))), ())

    def test_atoms(self):
        for first, second in itertools.combinations(samples.PLAIN_FORMS[:6] + (("mark", 1, "n"), ("own", "bob")), 2):
            self.both_ways(first, second, None)

    def test_a_variable_and_another_term(self):
        for term in (A, pair(A, B), digest(Y), ("box", Y, "ann"), ("own", "ann"), ("both", "ann", "bob")):
            self.both_ways(X, term, ((X, term),))

    def test_kinds(self):
        forms = [wrap(X) for wrap in samples.WRAPS] + [("box", X, "zed"), ("stamp", X, "zed")]
        for first, second in itertools.combinations(forms, 2):
            self.assertEqual(unify(first, second), plain.unify_rows((first,), (second,)), (first, second))
        self.both_ways(("box", X, "ann"), ("box", A, "bob"), None)
        self.both_ways(("stamp", X, "ann"), ("stamp", A, "bob"), None)
        self.both_ways(("box", X, "ann"), ("stamp", X, "ann"), None)
        self.both_ways(pair(X, Y), ("lock", X, Y), None)
        self.both_ways(digest(X), A, None)
        self.both_ways(("box", X, "ann"), ("box", A, "ann"), ((X, A),))
        self.both_ways(("lock", X, B), ("lock", A, Y), ((X, A), (Y, B)))

    def test_the_least_variable_replaces_the_others(self):
        self.both_ways(X, Y, ((Y, X),))
        self.both_ways(X, Z, ((Z, X),))
        self.both_ways(("var", 0, "a"), ("var", 0, "aa"), ((("var", 0, "aa"), ("var", 0, "a")),))
        self.both_ways(("var", 0, "b"), ("var", 1, "a"), ((("var", 1, "a"), ("var", 0, "b")),))
        for order in itertools.permutations((X, Y, Z, V)):
            self.assertEqual(unify_rows(order[:3], order[1:]), ((Y, X), (Z, X), (V, X)))
            self.assertEqual(unify_rows(order[:1] * 3, order[1:]), ((Y, X), (Z, X), (V, X)))
            self.assertEqual(unify_rows(order[:3] + (order[3],), order[1:] + (A,)), ((X, A), (Y, A), (Z, A), (V, A)))

    def test_classes_within_terms(self):
        self.both_ways(pair(V, pair(Y, X)), pair(digest(Z), pair(X, X)), ((Y, X), (V, digest(Z))))
        self.both_ways(pair(V, Z), pair(digest(Z), X), ((Z, X), (V, digest(X))))

    def test_full_and_ascending(self):
        self.both_ways(pair(V, pair(X, Y)), pair(pair(X, Y), pair(digest(Y), digest(Z))),
                       ((X, digest(digest(Z))), (Y, digest(Z)), (V, pair(digest(digest(Z)), digest(Z)))))

    def test_a_variable_that_occurs_twice(self):
        self.both_ways(pair(X, X), pair(A, A), ((X, A),))
        self.both_ways(pair(X, X), pair(A, B), None)
        self.both_ways(pair(X, X), pair(digest(Y), digest(A)), ((X, digest(A)), (Y, A)))
        self.both_ways(pair(X, X), pair(digest(Y), pair(Y, Y)), None)

    def test_a_variable_within_its_own_term(self):
        for wrap in samples.WRAPS:
            self.both_ways(X, wrap(X), None)
            self.both_ways(X, wrap(wrap(X)), None)
        self.both_ways(pair(X, Y), pair(digest(Y), digest(X)), None)
        self.both_ways(pair(X, pair(Y, Z)), pair(digest(Y), pair(digest(Z), digest(X))), None)
        self.both_ways(pair(X, Y), pair(Y, digest(X)), None)
        self.both_ways(digest(digest(X)), digest(X), None)
        self.both_ways(pair(X, X), pair(Y, digest(Y)), None)
        self.both_ways(pair(X, digest(A)), pair(X, digest(A)), ())

    def test_rows_at_once(self):
        self.assertEqual(unify_rows((X, Y, Z), (Y, Z, A)), ((X, A), (Y, A), (Z, A)))
        self.assertIsNone(unify_rows((X, X), (A, B)))
        self.assertIsNone(unify_rows((A, X), (B, X)))
        self.assertEqual(unify_rows((A, X), (A, B)), ((X, B),))
        self.assertIsNone(unify_rows((X, Y), (digest(Y), digest(X))))

    def test_parameter_names(self):
        self.assertEqual(unify(first=X, second=A), ((X, A),))
        self.assertEqual(unify_rows(first=(X,), second=(A,)), ((X, A),))


class ByChance(unittest.TestCase):
    def test_same_as_plain(self):
        chance = random.Random(41)
        solved = 0
        for _ in range(6000):
            leaves = (A, B, X, Y, Z, V) if chance.random() < 0.5 else (A, X, Y, X, Y)
            depth = chance.choice((1, 2, 2, 3, 4))
            first = term_by_chance(chance, depth, leaves)
            second = term_by_chance(chance, depth, leaves)
            if chance.random() < 0.5:
                second = plain.apply([(v, chance.choice(leaves)) for v in (X, Y, Z, V)], first)
                second = plain.apply([(v, term_by_chance(chance, 2, leaves)) for v in (X, Y)], second)
            expected = plain.unify_rows((first,), (second,))
            solved += bool(expected)
            self.assertEqual(unify(first, second), expected, (first, second))
            self.assertEqual(unify(second, first), expected, (first, second))
        self.assertGreater(solved, 1000)

    def test_most_general(self):
        chance = random.Random(42)
        small = [A, B, digest(A), digest(B), pair(A, A), pair(A, B)]
        found = 0
        for _ in range(300):
            first, second = (term_by_chance(chance, 2, (A, X, Y, Z)) for _ in range(2))
            unifier = unify(first, second)
            for values in itertools.product(small, repeat=3):
                ground = tuple(zip((X, Y, Z), values))
                if apply_bindings(ground, first) == apply_bindings(ground, second):
                    found += 1
                    self.assertIsNotNone(unifier)
                    for variable in (X, Y, Z):
                        general = apply_bindings(unifier, variable)
                        self.assertEqual(apply_bindings(ground, general), apply_bindings(ground, variable))
        self.assertGreater(found, 100)

    def test_full_and_equal_after(self):
        chance = random.Random(43)
        for _ in range(1000):
            rows = [[term_by_chance(chance, 2, (A, X, Y, Z, V)) for _ in range(2)] for _ in range(2)]
            unifier = unify_rows(tuple(rows[0]), tuple(rows[1]))
            self.assertEqual(unifier, plain.unify_rows(rows[0], rows[1]))
            if unifier is not None:
                self.assertEqual([v for v, _ in unifier], sorted([v for v, _ in unifier], key=plain.rank))
                left = plain.variables(*[term for _, term in unifier])
                self.assertFalse([v for v, _ in unifier if v in left])
                for one, other in zip(*rows):
                    self.assertEqual(apply_bindings(unifier, one), apply_bindings(unifier, other))


def doubling(names, start):
    """Two rows that make each variable a pair of the one before it, and the first one a term."""
    return (names[0], *names[1:]), (start, *[pair(name, name) for name in names[:-1]])


class Bounds(unittest.TestCase):
    def test_sizes_of_2000_and_2001(self):
        names = chain_names("x")[:10]
        first, second = doubling(names, A)
        ends = (digest(names[3]), digest(digest(names[3])), pair(names[3], A))
        for at in (5, 6, 7, 8, 9):
            ends = tuple(pair(names[at], end) for end in ends)
        unifier = dict(unify_rows(first + (V,), second + ends[:1]))
        self.assertEqual(size(unifier[V]), 2000)
        self.assertEqual(unifier[names[9]], samples.doubled(A, 9))
        for larger in ends[1:]:
            with self.assertRaises(TooLarge):
                unify_rows(first + (V,), second + (larger,))
            with self.assertRaises(TooLarge):
                unify_rows(second + (larger,), first + (V,))

    def test_what_is_no_term_of_the_result_may_be_larger(self):
        names = chain_names("x")[:10]
        first, second = doubling(names, A)
        twice = pair(names[9], names[9])
        unifier = dict(unify_rows(first + (twice,), second + (pair(names[9], Y),)))
        self.assertEqual(size(unifier[Y]), 1023)

    def test_levels_of_200_and_201(self):
        names = chain_names("x")[:8]
        first = tuple(names[1:])
        second = tuple(samples.deep(name, 28, (samples.WRAPS[4],)) for name in names[:-1])
        for many, fits in ((3, True), (4, False)):
            ends = (names[0],), (samples.deep(A, many, (samples.WRAPS[4],)),)
            if fits:
                unifier = dict(unify_rows(first + ends[0], second + ends[1]))
                self.assertEqual(levels_of(unifier[names[7]]), 200)
            else:
                with self.assertRaises(TooLarge):
                    unify_rows(first + ends[0], second + ends[1])

    def test_levels_with_variables(self):
        names = chain_names("x")[:8]
        first = tuple(names[1:])
        for many, fits in ((29, False), (28, True)):
            second = tuple(samples.deep(name, 28, (samples.WRAPS[0],)) for name in names[:-2])
            second += (samples.deep(names[6], many + 3, (samples.WRAPS[4],)),)
            if fits:
                self.assertEqual(levels_of(dict(unify_rows(first, second))[names[7]]), 200)
            else:
                with self.assertRaises(TooLarge):
                    unify_rows(first, second)

    def test_none_comes_ahead_of_too_large(self):
        names = chain_names("x")
        first, second = doubling(names, A)
        with self.assertRaises(TooLarge):
            unify_rows(first, second)
        self.assertIsNone(unify_rows(first + (A,), second + (B,)))
        self.assertIsNone(unify_rows((A,) + first, (B,) + second))
        self.assertIsNone(unify_rows(first + (Y,), second + (digest(Y),)))
        self.assertIsNone(unify_rows(first + (names[0],), second + (digest(names[25]),)))
        self.assertIsNone(unify_rows(first + (names[25],), second + (digest(Y),)))
        self.assertIsNone(unify_rows(first + (names[25], names[0]), second + (names[24], A)))

    def test_chains_that_double(self):
        for many in (5, 26):
            one, other = chain_names("x")[:many], chain_names("y")[:many]
            rows = [doubling(one, X), doubling(other, Y)]
            first, second = rows[0][0] + rows[1][0], rows[0][1] + rows[1][1]
            if many == 5:
                unifier = dict(unify_rows(first + (one[-1],), second + (other[-1],)))
                self.assertEqual(unifier[other[4]], samples.doubled(X, 4))
                self.assertEqual(unifier[Y], X)
            else:
                with self.assertRaises(TooLarge):
                    unify_rows(first + (one[-1],), second + (other[-1],))
            self.assertIsNone(unify_rows(first + (one[-1], X, Y), second + (other[-1], A, B)))
            self.assertIsNone(unify_rows(first + (one[-1], X), second + (other[-1], digest(Y))))
            self.assertIsNone(unify_rows(first + (one[-1],), second + (digest(other[-1]),)))

    def test_chains_within_one_term(self):
        names = chain_names("x")[:13]
        first, second = doubling(names, A)
        left, right = first[0], second[0]
        for one, other in zip(first[1:], second[1:]):
            left, right = pair(left, one), pair(right, other)
        with self.assertRaises(TooLarge):
            unify(left, right)
        self.assertIsNone(unify(pair(left, A), pair(right, B)))
        names = names[:10]
        first, second = doubling(names, A)
        left, right = first[0], second[0]
        for one, other in zip(first[1:], second[1:]):
            left, right = pair(left, one), pair(right, other)
        self.assertEqual(dict(unify(left, right))[names[9]], samples.doubled(A, 9))

    def test_deep_terms(self):
        for wrap in samples.WRAPS:
            self.assertEqual(unify(samples.deep(X, 29, (wrap,)), samples.deep(A, 29, (wrap,))), ((X, A),))
            self.assertIsNone(unify(samples.deep(X, 28, (wrap,)), samples.deep(X, 29, (wrap,))))
            self.assertIsNone(unify(samples.deep(B, 29, (wrap,)), samples.deep(A, 29, (wrap,))))


if __name__ == "__main__":
    unittest.main()
