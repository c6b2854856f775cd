"""Points [9] and [10]: opened rows, what can be built, what is reachable, and least recipes."""

import itertools
import random
import unittest

from muffline.errors import TooLarge
from muffline.recipes import can_build, cook, opened, reachable, recipe_for, recipe_size, wall_for, wall_holds
from muffline.terms import in_order, levels_of, parts_of_row, size
from tests import plain, samples

GOOD = ("ann", "bob")
HI = ("word", "hi")
ANN, BOB, MAL = ("own", "ann"), ("own", "bob"), ("own", "mal")
KEY = ("both", "ann", "bob")
OPEN_KEY = ("both", "ann", "mal")
X = ("var", 0, "x")


def mark(name):
    return ("mark", 0, name)


M, N, K, S = mark("m"), mark("n"), mark("k"), mark("s")


def letter(at):
    return ("letter", at)


class Opened(unittest.TestCase):
    def check(self, row, expected, good=GOOD):
        self.assertEqual(opened(good, row), in_order(expected))
        self.assertEqual(plain.opened(good, row), in_order(expected))

    def test_empty(self):
        self.check((), ())

    def test_ascending_without_repetitions(self):
        self.check((("digest", M), N, M, N, ("digest", M), HI), (M, N, HI, ("digest", M)))
        self.assertEqual(opened(GOOD, (N, HI, M, N)), (M, N, HI))

    def test_pairs(self):
        inner = ("pair", N, K)
        self.check((("pair", M, inner),), (("pair", M, inner), M, inner, N, K))

    def test_stamps_of_all_hosts(self):
        for name in ("ann", "mal"):
            self.check((("stamp", M, name),), (("stamp", M, name), M))

    def test_digests_stay_shut(self):
        self.check((("digest", ("pair", M, N)),), (("digest", ("pair", M, N)),))

    def test_locks(self):
        lock = ("lock", M, K)
        self.check((lock,), (lock,))
        self.check((lock, K), (lock, K, M))
        self.check((("lock", M, HI),), (("lock", M, HI), M))
        self.check((("lock", M, KEY),), (("lock", M, KEY),))
        self.check((("lock", M, OPEN_KEY),), (("lock", M, OPEN_KEY), M))
        self.check((("lock", M, KEY),), (("lock", M, KEY), M), good=("ann",))
        self.check((("lock", M, MAL),), (("lock", M, MAL), M))

    def test_a_key_is_not_given_away(self):
        self.check((("lock", M, K), M), (("lock", M, K), M))
        self.check((("lock", HI, K),), (("lock", HI, K),))

    def test_boxes(self):
        box = ("box", M, "ann")
        self.check((box,), (box,))
        self.check((box, BOB), (box, BOB))
        self.check((box, ANN), (box, ANN, M))
        self.check((("box", M, "mal"),), (("box", M, "mal"), M))
        self.check((box,), (box, M), good=())

    def test_composed_keys(self):
        for wrap in samples.WRAPS:
            if wrap(K)[0] != "stamp":
                lock = ("lock", M, wrap(K))
                parts_of_key = [part for part in parts_of_row((wrap(K),)) if part != wrap(K)]
                self.assertEqual(M in opened(GOOD, (lock, K)), plain.reachable(GOOD, (K,), wrap(K)))
                self.assertIn(M, opened(GOOD, (lock, *parts_of_key)))
                self.assertNotIn(wrap(K), opened(GOOD, (lock, *parts_of_key)))
        self.check((("lock", M, ("digest", ("pair", K, HI))), K), (("lock", M, ("digest", ("pair", K, HI))), K, M))

    def test_stamps_as_keys(self):
        lock = ("lock", M, ("stamp", K, "ann"))
        self.check((lock, K), (lock, K))
        self.check((lock, K, ANN), (lock, K, ANN, M))
        self.check((lock, ANN), (lock, ANN))
        self.check((lock, ("stamp", K, "ann")), (lock, ("stamp", K, "ann"), K, M))
        lock = ("lock", M, ("stamp", K, "mal"))
        self.check((lock, K), (lock, K, M))

    def test_keys_within_locks(self):
        outer = ("lock", ("lock", M, K), N)
        self.check((outer, N), (outer, N, ("lock", M, K)))
        self.check((outer, K), (outer, K))
        self.check((outer, K, N), (outer, K, N, ("lock", M, K), M))
        hidden = ("lock", K, ("lock", N, S))
        self.check((("lock", M, K), hidden, N), (("lock", M, K), hidden, N))
        self.check((("lock", M, K), hidden, N, S), (("lock", M, K), hidden, N, S, K, M))
        self.check((("lock", M, K), hidden, ("lock", N, S)), (("lock", M, K), hidden, ("lock", N, S), K, M))

    def test_a_lock_that_opens_itself_does_not(self):
        self.check((("lock", K, K),), (("lock", K, K),))
        self.check((("lock", K, N), ("lock", N, K)), (("lock", K, N), ("lock", N, K)))
        self.check((("box", ANN, "ann"),), (("box", ANN, "ann"),))

    def test_any_order(self):
        chain = (("pair", HI, ("lock", K, HI)), ("stamp", ("lock", N, ("digest", K)), "ann"), ("lock", ANN, N),
                 ("box", ("pair", S, HI), "ann"), ("lock", M, ("pair", S, K)))
        expected = in_order(tuple(parts_of_row(chain)))
        expected = tuple(term for term in expected if term not in (("digest", K), ("pair", S, K)))
        for row in itertools.permutations(chain):
            self.assertEqual(opened(GOOD, row), expected)
            self.assertIs(reachable(GOOD, row, M), True)
            for at in range(len(row)):
                self.assertIs(reachable(GOOD, row[:at] + row[at + 1:], M), False)

    def test_variables_are_like_marks(self):
        lock = ("lock", M, X)
        self.check((lock,), (lock,))
        self.check((lock, ("var", 1, "x")), (lock, ("var", 1, "x")))
        self.check((lock, ("var", 0, "y")), (lock, ("var", 0, "y")))
        self.check((lock, X), (lock, X, M))
        self.check((("pair", X, M),), (("pair", X, M), X, M))

    def test_long_chains(self):
        names = ["k" + chr(97 + at // 26) + chr(97 + at % 26) for at in range(600)]
        locks = [("lock", mark(names[at + 1]), mark(names[at])) for at in range(599)]
        row = tuple(tree(locks[at:at + 20]) for at in range(0, 599, 20)) + (mark(names[0]),)
        self.assertIs(reachable(GOOD, row, mark(names[599])), True)
        self.assertIs(reachable(GOOD, row[:-1], mark(names[599])), False)
        self.assertIn(mark(names[599]), opened(GOOD, row[::-1]))

    def test_deep_rows(self):
        for wrap in samples.WRAPS:
            row = tuple(samples.deep(mark(name), 199, (wrap,)) for name in ("a", "b", "c", "d", "e", "f"))
            expected = parts_of_row(row) if wrap(M)[0] in ("pair", "stamp") else row
            self.assertEqual(opened(GOOD, row), in_order(expected))


def tree(terms):
    if len(terms) == 1:
        return terms[0]
    return ("pair", tree(terms[:len(terms) // 2]), tree(terms[len(terms) // 2:]))


class CanBuild(unittest.TestCase):
    def test_in_the_set(self):
        for term in (M, KEY, ANN, X, ("digest", M), ("lock", M, KEY), ("stamp", M, "ann"), ("box", M, "ann")):
            self.assertIs(can_build(GOOD, (N, term), term), True)
            self.assertIs(can_build(GOOD, (N,), term), False)
            self.assertIs(can_build(GOOD, (), term), False)

    def test_free_atoms(self):
        for term in (HI, ("host", "ann"), ("road", 5), MAL, OPEN_KEY):
            self.assertIs(can_build(GOOD, (), term), True)
        self.assertIs(can_build((), (), KEY), True)

    def test_composing(self):
        for terms, term in (((M, N), ("pair", M, N)), ((M, K), ("lock", M, K)), ((M,), ("digest", M)),
                            ((M,), ("box", M, "ann")), ((M, ANN), ("stamp", M, "ann"))):
            self.assertIs(can_build(GOOD, terms, term), True)
            for at in range(len(terms)):
                self.assertIs(can_build(GOOD, terms[:at] + terms[at + 1:], term), False)
        self.assertIs(can_build(GOOD, (M,), ("stamp", M, "mal")), True)
        self.assertIs(can_build(GOOD, (M,), ("pair", ("digest", M), ("box", ("lock", M, OPEN_KEY), "bob"))), True)

    def test_nothing_is_opened(self):
        for term in (("pair", M, N), ("stamp", M, "ann"), ("stamp", M, "mal"), ("lock", M, HI), ("box", M, "mal")):
            self.assertIs(can_build(GOOD, (term,), M), False)
            self.assertIs(can_build(GOOD, (term,), ("digest", M)), False)
            self.assertIs(can_build(GOOD, (term,), ("digest", term)), True)
            self.assertIs(reachable(GOOD, (term,), M), True)

    def test_many_terms(self):
        terms = opened(GOOD, tuple(samples.deep(mark(name), 199, (samples.WRAPS[6],)) for name in "abcdefghij"))
        self.assertEqual(len(terms), 2000)
        self.assertIs(can_build(GOOD, terms, ("pair", mark("a"), mark("j"))), True)
        self.assertIs(can_build(GOOD, terms, ("pair", mark("a"), mark("k"))), False)

    def test_deep_terms(self):
        for wrap in samples.WRAPS:
            term = samples.deep(N, 199, (wrap,))
            for terms in ((), (N,), (M, N), (M, N, KEY, ANN), (M, KEY, ANN)):
                self.assertIs(can_build(GOOD, terms, term), plain.can_build(GOOD, terms, wrap(N)), (terms, wrap(N)))


class Reachable(unittest.TestCase):
    def test_example(self):
        row = (("lock", M, KEY), ("digest", M))
        self.assertIs(reachable(GOOD, row, M), False)
        self.assertIsNone(recipe_for(GOOD, row, M))
        self.assertEqual(opened(GOOD, row), (("digest", M), ("lock", M, KEY)))
        self.assertIs(reachable(GOOD, row + (KEY,), M), True)
        self.assertEqual(recipe_for(GOOD, row + (KEY,), M), ("unlock", letter(0), letter(2)))
        self.assertEqual(recipe_for(GOOD, row, OPEN_KEY), ("free", OPEN_KEY))

    def test_opening_and_composing(self):
        row = (("lock", ("box", M, "mal"), ("digest", K)), ("pair", K, N))
        for term in (M, N, K, ("pair", M, N), ("digest", K), ("lock", N, M), ("stamp", M, "mal"), row[0], row[1]):
            self.assertIs(reachable(GOOD, row, term), True)
        for term in (S, ANN, KEY, ("stamp", M, "ann"), ("pair", M, S), ("digest", S), X):
            self.assertIs(reachable(GOOD, row, term), False)

    def test_within_a_shut_term(self):
        for wrap in (lambda term: ("digest", term), lambda term: ("lock", term, KEY), lambda term: ("box", term, "bob")):
            self.assertIs(reachable(GOOD, (wrap(M),), M), False)
            self.assertIs(reachable(GOOD, (wrap(M),), wrap(M)), True)
            self.assertIs(reachable(GOOD, (wrap(M),), wrap(wrap(M))), wrap(M)[0] != "lock")


class LeastRecipes(unittest.TestCase):
    def check(self, row, term, expected, good=GOOD):
        self.assertEqual(recipe_for(good, row, term), expected)
        if expected is not None:
            self.assertEqual(cook(good, row, expected), term)

    def test_smaller_ones_first(self):
        self.check((("pair", M, N), M), M, letter(1))
        self.check((("pair", M, N),), M, ("left", letter(0)))
        self.check((M, N, ("pair", M, N)), ("pair", M, N), letter(2))
        self.check((M, N), ("pair", M, N), ("pair", letter(0), letter(1)))
        self.check((("pair", ("pair", M, N), M),), M, ("right", letter(0)))
        self.check((("digest", ("pair", M, M)), M), ("digest", ("pair", M, M)), letter(0))

    def test_written_form_then(self):
        self.check((("pair", M, M),), M, ("left", letter(0)))
        self.check((("pair", N, M), ("pair", M, N)), M, ("left", letter(1)))
        self.check((("pair", N, M), ("stamp", M, "ann")), M, ("right", letter(0)))
        self.check((HI,), HI, ("free", HI))
        self.check((HI, MAL, OPEN_KEY), MAL, ("free", MAL))
        self.check((M, M, M), M, letter(0))
        self.check((("stamp", M, "bob"), ("stamp", M, "ann")), M, ("unstamp", letter(0), "bob"))
        self.check((("lock", M, HI), ("lock", M, ("host", "a"))), M, ("unlock", letter(0), ("free", HI)))
        self.check((("box", M, "mal"), ("lock", M, HI)), M, ("unbox", letter(0), ("free", MAL), "mal"))

    def test_ten_comes_before_two(self):
        row = (N,) * 2 + (M,) + (N,) * 7 + (M,)
        self.check(row, M, letter(10))
        self.check(row[:10], M, letter(2))
        row = (N, N, ("pair", M, N)) + (N,) * 17 + (("pair", M, S),)
        self.check(row, M, ("left", letter(2)))
        row = (N, N, N, ("pair", M, N)) + (N,) * 16 + (("pair", M, S),)
        self.check(row, M, ("left", letter(20)))

    def test_written_form_of_inner_ones_of_other_sizes(self):
        # As sizes, the inner recipes are 1 + 2 and 2 + 1; as texts, "(left .." comes before "(letter ..".
        row = (("lock", M, N), ("pair", ("lock", M, S), N), S)
        self.check(row, M, ("unlock", ("left", letter(1)), letter(2)))
        self.check((("lock", M, N), ("pair", HI, N)), M, ("unlock", letter(0), ("right", letter(1))))
        row = (("pair", ("lock", M, S), HI), ("lock", M, N), ("pair", N, HI), S)
        self.check(row, M, ("unlock", ("left", letter(0)), letter(3)))

    def test_each_kind(self):
        self.check((M, K), ("lock", M, K), ("lock", letter(0), letter(1)))
        self.check((M,), ("digest", M), ("digest", letter(0)))
        self.check((M,), ("box", M, "ann"), ("box", letter(0), "ann"))
        self.check((M, ANN), ("stamp", M, "ann"), ("stamp", letter(0), letter(1), "ann"))
        self.check((M,), ("stamp", M, "mal"), ("stamp", letter(0), ("free", MAL), "mal"))
        self.check((("box", M, "ann"), ANN), M, ("unbox", letter(0), letter(1), "ann"))
        self.check((("stamp", M, "ann"),), M, ("unstamp", letter(0), "ann"))
        self.check((("pair", N, M),), M, ("right", letter(0)))
        self.check((("pair", M, X),), X, ("right", letter(0)))

    def test_private_halves_that_are_no_parts(self):
        row = (("box", M, "mal"),)
        self.check(row, M, ("unbox", letter(0), ("free", MAL), "mal"))
        self.check(row, ("stamp", M, "zed"),
                   ("stamp", ("unbox", letter(0), ("free", MAL), "mal"), ("free", ("own", "zed")), "zed"))

    def test_composed_keys(self):
        row = (("lock", M, ("digest", ("pair", K, HI))), ("stamp", K, "bob"))
        key = ("digest", ("pair", ("unstamp", letter(1), "bob"), ("free", HI)))
        self.check(row, M, ("unlock", letter(0), key))

    def test_not_reachable(self):
        for row, term in (((), M), ((), KEY), ((("digest", M),), M), ((M, N), K), ((M,), ("stamp", M, "ann")), ((M,), X),
                          ((("lock", M, KEY), ANN, BOB), M), ((M,), ("pair", M, N)), ((("box", M, "ann"),), M)):
            self.check(row, term, None)

    def test_same_as_listing_all_recipes(self):
        chance = random.Random(11)
        reached = 0
        for _ in range(40):
            row = tuple(term_by_chance(chance, 3) for _ in range(chance.randrange(1, 4)))
            found = plain.least_recipes(GOOD, row, [HI, MAL], ["ann", "mal"], 4)
            found = {term: recipe for term, recipe in found.items() if within(term)}
            for term, recipe in found.items():
                if plain.recipe_size(recipe) <= 3 or chance.random() < 0.02:
                    self.assertEqual(recipe_for(GOOD, row, term), recipe, (row, term))
            for term in parts_of_row(row):
                recipe = recipe_for(GOOD, row, term)
                self.assertIs(reachable(GOOD, row, term), recipe is not None)
                self.assertIs(plain.reachable(GOOD, row, term), recipe is not None)
                reached += term in found
                if recipe is None or recipe_size(recipe) > 4:
                    self.assertNotIn(term, found)
                else:
                    self.assertEqual(found[term], recipe)
        self.assertGreater(reached, 100)

    def test_never_greater_than_any_recipe(self):
        chance = random.Random(12)
        row = (("lock", ("pair", M, N), ("digest", K)), ("stamp", K, "ann"), ("box", S, "mal"))
        found = plain.least_recipes(GOOD, row, [HI, MAL], ["mal"], 5)
        for term in chance.sample([term for term in found if within(term)], 1500) + list(parts_of_row(row)):
            if term in found:
                self.assertEqual(recipe_for(GOOD, row, term), found[term])

    def test_same_as_trying_until_none_gets_less(self):
        chance = random.Random(13)
        large = 0
        for _ in range(400):
            row = tuple(term_by_chance(chance, 4) for _ in range(chance.randrange(1, 6)))
            term = term_by_chance(chance, 3)
            expected = plain.least_by_trying(GOOD, row, term)
            for goal in (term, *parts_of_row(row)):
                recipe = recipe_for(GOOD, row, goal)
                self.assertEqual(recipe, expected.get(goal), (row, goal))
                large += recipe is not None and recipe_size(recipe) > 6
        self.assertGreater(large, 100)


def within(term):
    """Whether a term has only what a listing with the hosts ann and mal and the word hi may use freely."""
    return all(part[0] not in ("box", "stamp") or part[2] in ("ann", "mal") for part in plain.all_parts([term]))


def term_by_chance(chance, depth):
    kind = chance.choice(("atom", "pair", "lock", "digest", "box", "stamp")) if depth else "atom"
    if kind == "atom":
        return chance.choice((M, N, K, HI, ANN, MAL))
    if kind in ("pair", "lock"):
        return (kind, term_by_chance(chance, depth - 1), term_by_chance(chance, depth - 1))
    if kind == "digest":
        return (kind, term_by_chance(chance, depth - 1))
    return (kind, term_by_chance(chance, depth - 1), chance.choice(("ann", "mal")))


def of_size(term, count):
    """A term of at least ten levels with many copies of a term of size 1, with a size from 1991 on."""
    found = samples.doubled(term, 9)
    for times in (8, 7, 6, 5):
        found = ("pair", found, samples.doubled(term, times))
    return ("pair", found, digests(samples.doubled(term, 2), count - 1991))


def digests(term, many):
    return samples.deep(term, many, (samples.WRAPS[4],))


class Bounds(unittest.TestCase):
    """Recipes of a size of 2000 and of 200 levels are the largest ones."""

    def assert_too_large(self, row, term, good=GOOD):
        with self.assertRaises(TooLarge):
            recipe_for(good, row, term)
        self.assertIs(reachable(good, row, term), True)
        self.assertIsNone(wall_for(good, row, term))
        self.assertIs(can_build(good, opened(good, row), term), True)
        self.assertIs(wall_holds(good, row, term, opened(good, row)), False)

    def test_size(self):
        for more in (0, 1, 2):
            term = of_size(M, 1998 + more)
            recipe = recipe_for(GOOD, (M,), term)
            self.assertEqual(recipe_size(recipe), 1998 + more)
            self.assertEqual(cook(GOOD, (M,), recipe), term)
        self.assertEqual(recipe_size(recipe_for(GOOD, (M,), ("stamp", of_size(M, 1998), "mal"))), 2000)
        self.assert_too_large((M,), ("stamp", of_size(M, 1999), "mal"))

    def test_size_of_the_key(self):
        row = (("lock", M, of_size(N, 1998)), N)
        self.assertEqual(recipe_size(recipe_for(GOOD, row, M)), 2000)
        for wrap in (samples.WRAPS[0], samples.WRAPS[1], samples.WRAPS[4], samples.WRAPS[5]):
            self.assert_too_large(row, wrap(M))
        self.assert_too_large(row, ("stamp", M, "mal"))
        row = (("lock", ("pair", M, N), of_size(N, 1997)), N)
        self.assert_too_large(row, ("pair", M, HI))
        self.assertEqual(recipe_size(recipe_for(GOOD, row, M)), 2000)

    def test_size_of_opening(self):
        key = samples.doubled(N, 8)
        self.assertEqual(size(key), 511)
        row = (N, ("lock", K, key), ("lock", S, ("pair", K, key)), ("lock", M, ("pair", S, key)))
        self.assertEqual(recipe_size(recipe_for(GOOD, row, K)), 513)
        self.assertEqual(recipe_size(recipe_for(GOOD, row, S)), 2 + 1 + 513 + 511)
        self.assertEqual(recipe_size(recipe_for(GOOD, row, M)), 2 + 1 + 1027 + 511)

    def test_size_of_openings_past_the_bound(self):
        key = samples.doubled(N, 8)
        names = [mark("k" + sign) for sign in "abcdef"]
        row = (N, ("lock", names[0], key))
        for one, other in zip(names, names[1:]):
            row += (("lock", other, ("pair", one, one)),)
        sizes = [513]
        for name in names[1:]:
            sizes.append(3 + 2 * sizes[-1])
        for name, count in zip(names, sizes):
            if count <= 2000:
                self.assertEqual(recipe_size(recipe_for(GOOD, row, name)), count)
            else:
                self.assert_too_large(row, name)

    def test_levels_of_composing(self):
        self.assertEqual(levels_of(recipe_for(GOOD, (M,), digests(M, 199))), 200)
        self.assertEqual(levels_of(recipe_for(GOOD, (), digests(HI, 198))), 200)
        self.assert_too_large((), digests(HI, 199))
        self.assert_too_large((HI,), digests(HI, 199))
        self.assert_too_large((("pair", M, N),), digests(M, 199))
        self.assertEqual(levels_of(recipe_for(GOOD, (("pair", M, N),), digests(M, 198))), 200)

    def test_levels_of_opening(self):
        for wrap in (samples.WRAPS[0], samples.WRAPS[1], samples.WRAPS[6]):
            row = (samples.deep(M, 199, (wrap,)),)
            self.assertEqual(levels_of(recipe_for(GOOD, row, M)), 200)
            self.assert_too_large(row, ("digest", M))
            self.assert_too_large(row, ("stamp", M, "mal"))
            self.assertEqual(levels_of(recipe_for(GOOD, (samples.deep(M, 198, (wrap,)),), ("digest", M))), 200)

    def test_the_least_recipe_counts_and_no_other(self):
        # Least by size is the one of too many levels, though a greater one of fewer levels is there.
        deep = samples.deep(M, 199, (samples.WRAPS[6],))
        key = samples.doubled(N, 7)
        row = (deep, ("lock", M, key), N)
        self.assertEqual(recipe_size(recipe_for(GOOD, row, M)), 200)
        self.assert_too_large(row, ("digest", M))
        row = (deep, ("lock", M, samples.doubled(N, 6)), N)
        self.assertEqual(recipe_size(recipe_for(GOOD, row, ("digest", M))), 130)

    def test_nothing_is_raised_for_what_is_not_reachable(self):
        self.assertIsNone(recipe_for(GOOD, (M,), digests(N, 199)))
        self.assertIsNone(recipe_for(GOOD, (HI,), ("pair", digests(HI, 198), N)))


class General(unittest.TestCase):
    def test_parameter_names(self):
        self.assertEqual(opened(good=GOOD, row=(M,)), (M,))
        self.assertIs(can_build(good=GOOD, terms=(M,), term=M), True)
        self.assertIs(reachable(good=GOOD, row=(M,), term=M), True)
        self.assertEqual(recipe_for(good=GOOD, row=(M,), term=M), letter(0))

    def test_equal_calls(self):
        row = (("lock", M, ("digest", K)), ("pair", K, N))
        for function in (reachable, recipe_for):
            self.assertEqual(function(GOOD, row, M), function(GOOD, row, M))
        self.assertEqual(opened(GOOD, row), opened(GOOD, row))


if __name__ == "__main__":
    unittest.main()
