"""Points [32] to [34]: rows and runs that look alike, and tests that tell them apart."""

import random
import string
import unittest

from muffline.errors import BadMove, BadRows, TooLarge
from muffline.forms import forms_within
from muffline.likeness import runs_alike, tell_apart, tells
from muffline.recipes import cook, recipe_size
from muffline.terms import levels_of, size
from tests import plain, plain_likeness, samples
from tests.worlds import ECHO, GET, GIVE, SHOW, role, world

GOOD = ("ann", "bob")
HI, HO = ("word", "hi"), ("word", "ho")
M, N, K, S = [("mark", 0, name) for name in "mnks"]
ANN, BOB, MAL = ("own", "ann"), ("own", "bob"), ("own", "mal")
KEY, OPEN_KEY = ("both", "ann", "bob"), ("both", "ann", "mal")
L = [("letter", at) for at in range(45)]


RECIPE_KINDS = ("letter", "free", "pair", "lock", "digest", "box", "stamp", "left", "right", "unstamp", "unlock", "unbox")


def free(atom):
    return ("free", atom)


def digest(term):
    return ("digest", term)


def pair(one, other):
    return ("pair", one, other)


def lock(term, key):
    return ("lock", term, key)


class Tells(unittest.TestCase):
    def check(self, first, second, test, expected):
        self.assertIs(tells(GOOD, first, second, test), expected, test)
        self.assertIs(tells(GOOD, second, first, test), expected, test)
        self.assertIs(plain_likeness.tells(GOOD, first, second, test), expected)

    def test_works(self):
        first, second = (lock(N, K), K, pair(N, M)), (lock(N, S), K, digest(pair(N, M)))
        for recipe, expected in (
            (L[0], False), (L[2], False), (L[3], False), (("unlock", L[0], L[1]), True), (("unlock", L[0], L[0]), False),
            (("left", L[2]), True), (("right", L[2]), True), (("left", L[0]), False), (free(N), False), (free(HI), False),
            (("digest", ("left", L[2])), True), (("pair", L[0], ("unlock", L[0], L[1])), True), (("stamp", L[0], L[1], "ann"), False),
        ):
            self.check(first, second, ("works", recipe), expected)

    def test_works_with_halves(self):
        first, second = (ANN, ("box", N, "ann"), ("stamp", N, "ann")), (BOB, ("box", N, "bob"), ("stamp", N, "bob"))
        for recipe, expected in (
            (("stamp", free(HI), L[0], "ann"), True), (("stamp", free(HI), L[0], "bob"), True), (("stamp", free(HI), L[0], "mal"), False),
            (("stamp", free(HI), free(MAL), "mal"), False), (("unbox", L[1], L[0], "ann"), True), (("unbox", L[1], L[0], "bob"), True),
            (("unstamp", L[2], "ann"), True), (("unstamp", L[2], "mal"), False), (("box", L[2], "ann"), False),
        ):
            self.check(first, second, ("works", recipe), expected)

    def test_equal(self):
        first, second = (N, digest(N), N, M, pair(M, M)), (N, digest(N), M, K, pair(M, M))
        for one, other, expected in (
            (L[0], L[0], False), (L[0], L[2], True), (L[0], L[1], False), (L[1], ("digest", L[0]), False), (L[1], ("digest", L[2]), True),
            (("left", L[4]), L[3], True), (("left", L[4]), L[2], True), (("left", L[4]), ("right", L[4]), False),
            (free(HI), free(HI), False), (free(HI), free(HO), False), (L[3], L[0], False),
        ):
            self.check(first, second, ("equal", one, other), expected)
            self.check(first, second, ("equal", other, one), expected)

    def test_equal_where_a_recipe_fails(self):
        first, second = (N, N, pair(N, M)), (N, N, digest(N))
        works, fails, half = L[0], ("left", L[0]), ("left", L[2])
        self.check(first, second, ("works", half), True)
        for one, other in ((works, half), (half, works), (half, half), (works, fails), (fails, works), (fails, fails), (half, fails),
                           (free(N), works), (L[9], works), (L[9], L[9])):
            self.check(first, second, ("equal", one, other), False)

    def test_the_good_hosts(self):
        test = ("works", ("unlock", L[0], free(KEY)))
        first, second = (lock(N, KEY),), (lock(N, K),)
        self.assertIs(tells(GOOD, first, second, test), False)
        self.assertIs(tells(("ann",), first, second, test), True)
        self.assertIs(tells((), first, second, test), True)

    def test_rows_of_unlike_lengths(self):
        for first, second in (((), (N,)), ((N,), ()), ((N, M), (N,)), ((N,), (N, N))):
            for test in (("works", L[0]), ("works", L[40]), ("equal", L[0], L[1]), ("equal", L[0], free(N))):
                with self.assertRaises(BadRows):
                    tells(GOOD, first, second, test)
            with self.assertRaises(BadRows):
                tell_apart(GOOD, first, second)

    def test_parameter_names(self):
        self.assertIs(tells(good=GOOD, first=(N,), second=(M,), test=("works", L[0])), False)
        self.assertIsNone(tell_apart(good=GOOD, first=(N,), second=(M,)))


def spoil_names(value):
    """The value with the mark names n and m exchanged."""
    if isinstance(value, tuple):
        return tuple(spoil_names(item) for item in value)
    return {"n": "m", "m": "n"}.get(value, value)


# Pairs of rows that are told apart, one way for each line.
APART = (
    # An opening that works on one row only.
    ((pair(N, M),), (N,)), ((pair(N, M),), (digest(N),)), ((pair(N, M),), (lock(N, M),)), ((("stamp", N, "ann"),), (N,)),
    ((("stamp", N, "ann"),), (("stamp", N, "bob"),)), ((("stamp", N, "ann"),), (("box", N, "ann"),)), ((lock(N, K), K), (lock(N, M), K)),
    ((lock(N, K), K), (N, K)), ((lock(N, HI),), (lock(N, HO),)), ((lock(N, HI),), (lock(N, M),)), ((lock(N, OPEN_KEY),), (lock(N, KEY),)),
    ((lock(N, pair(K, HI)), K), (lock(N, pair(K, HO)), K)), ((lock(N, digest(K)), K), (lock(N, K), K)),
    ((("box", N, "mal"),), (("box", N, "ann"),)), ((("box", N, "mal"),), (N,)), ((("box", N, "mal"),), (("box", N, "eve"),)),
    ((("box", N, "ann"), ANN), (("box", N, "bob"), ANN)), ((("box", N, "ann"), ANN), (digest(N), ANN)),
    ((lock(N, ("stamp", K, "mal")), K), (lock(N, ("stamp", K, "ann")), K)),
    ((lock(N, ("stamp", K, "ann")), K, ANN), (lock(N, ("stamp", K, "ann")), K, S)),
    # The same one level deeper.
    ((pair(N, pair(N, M)),), (pair(N, M),)), ((pair(lock(N, K), K),), (pair(lock(N, K), M),)), ((lock(pair(N, N), HI),), (lock(N, HI),)),
    ((("stamp", ("box", pair(N, M), "mal"), "ann"),), (("stamp", ("box", digest(M), "mal"), "ann"),)),
    # A free atom against something else.
    ((HI,), (HO,)), ((HI,), (N,)), ((("host", "ann"),), (("host", "bob"),)), ((("road", 0),), (("road", 1),)), ((("road", 5),), (N,)),
    ((OPEN_KEY,), (KEY,)), ((OPEN_KEY,), (N,)), ((MAL,), (ANN,)), ((MAL,), (N,)), ((MAL,), (("own", "eve"),)), ((pair(N, HI),), (pair(N, M),)),
    ((HI,), (digest(HI),)), ((("host", "ann"),), (("word", "ann"),)),
    # A private half against something else.
    ((ANN,), (BOB,)), ((ANN,), (N,)), ((ANN,), (KEY,)), ((ANN,), (digest(ANN),)), ((pair(M, ANN),), (pair(M, N),)),
    # Equal terms against unequal ones.
    ((N, N), (N, M)), ((pair(N, N),), (pair(N, M),)), ((N, lock(N, HI)), (N, lock(M, HI))), ((digest(N), digest(N)), (digest(N), digest(M))),
    ((lock(N, K), lock(N, K)), (lock(N, K), lock(N, S))), ((N, M, N), (M, N, N)), ((KEY, KEY), (KEY, N)), ((pair(N, pair(M, N)),), (pair(N, pair(M, K)),)),
    # A term that can be composed against one that cannot be composed alike.
    ((N, digest(N)), (N, digest(M))), ((N, digest(N)), (N, M)), ((digest(HI),), (digest(HO),)), ((digest(HI),), (digest(N),)), ((digest(HI),), (N,)),
    ((N, ("box", N, "ann")), (N, ("box", M, "ann"))), ((N, ("box", N, "ann")), (N, ("box", N, "bob"))), ((N, ("box", N, "ann")), (N, K)),
    ((N, K, lock(N, K)), (N, K, lock(M, K))), ((N, K, lock(N, K)), (N, K, lock(N, M))), ((N, lock(N, HI)), (N, M)),
    ((N, digest(digest(N))), (N, digest(digest(M)))), ((N, digest(pair(N, HI))), (N, digest(pair(HI, N)))), ((N, digest(N)), (N, digest(digest(N)))),
    ((ANN, N, ("stamp", N, "ann")), (ANN, N, ("stamp", M, "ann"))), ((N, ("stamp", N, "mal")), (N, ("stamp", M, "mal"))),
    ((("stamp", HI, "mal"),), (("stamp", HO, "mal"),)), ((N, M, digest(pair(N, M))), (N, M, digest(pair(M, N)))),
    ((K, lock(digest(N), K), N), (K, lock(digest(M), K), N)), ((digest(KEY), KEY), (digest(K), KEY)), ((digest(OPEN_KEY),), (digest(KEY),)),
    ((("box", HI, "ann"),), (("box", HI, "bob"),)), ((digest(MAL),), (digest(ANN),)),
)

ALIKE = (
    ((), ()), ((N,), (M,)), ((digest(N),), (N,)), ((digest(N),), (KEY,)), ((lock(N, K),), (lock(M, S),)), ((lock(N, K),), (digest(N),)),
    ((lock(N, K),), (lock(N, KEY),)), ((lock(HI, KEY),), (lock(HO, KEY),)), ((lock(pair(N, M), KEY),), (N,)), ((("box", N, "ann"),), (("box", N, "bob"),)),
    ((("box", N, "ann"),), (K,)), ((pair(N, M),), (pair(M, N),)), ((N, M), (M, N)), ((N, digest(N)), (M, digest(M))),
    ((lock(N, K), K), (lock(M, S), S)), ((("stamp", N, "ann"),), (("stamp", M, "ann"),)), ((("stamp", N, "ann"), digest(M)), (("stamp", N, "ann"), K)),
    ((ANN, ("box", N, "ann")), (ANN, ("box", M, "ann"))), ((ANN, N), (ANN, digest(M))),
    ((HI, N), (HI, ("box", N, "bob"))), ((lock(lock(N, K), S), K), (lock(lock(N, K), M), K)), ((N, lock(M, digest(K))), (N, digest(S))),
    ((digest(pair(N, HI)),), (digest(pair(N, HO)),)), ((lock(N, N),), (lock(M, N),)), ((lock(K, digest(K)),), (M,)),
    ((MAL, digest(N)), (MAL, S)), ((N, digest(pair(N, M))), (N, digest(pair(M, N)))), ((digest(("stamp", HI, "ann")),), (digest(("stamp", HO, "bob")),)),
    ((KEY, lock(N, KEY)), (KEY, lock(M, KEY))), ((KEY,), (N,)), ((K, lock(N, digest(K))), (M, lock(S, digest(M)))),
)


class Rows(unittest.TestCase):
    def check_apart(self, first, second, good=GOOD):
        for one, other in ((first, second), (second, first)):
            test = tell_apart(good, one, other)
            self.assertIsNotNone(test, (one, other))
            self.assertIn((test[0], len(test)), (("works", 2), ("equal", 3)))
            self.assertIs(plain_likeness.tells(good, one, other, test), True, (one, other, test))
            self.assertIs(tells(good, one, other, test), True)
            for recipe in test[1:]:
                self.assertIsNotNone(forms_within(recipe, "recipe", ()))

    def check_alike(self, first, second, good=GOOD):
        for one, other in ((first, second), (second, first)):
            self.assertIsNone(tell_apart(good, one, other), (one, other))

    def test_examples(self):
        self.assertEqual(tell_apart(GOOD, (N, digest(N)), (N, M)), ("equal", L[1], ("digest", L[0])))
        self.assertIs(tells(GOOD, (N, digest(N)), (N, M), ("equal", L[1], ("digest", L[0]))), True)
        self.check_apart((N, digest(N)), (N, M))
        self.check_alike((digest(N),), (N,))

    def test_each_way_of_being_apart(self):
        for first, second in APART:
            with self.subTest(first=first, second=second):
                self.check_apart(first, second)
                self.check_apart((S, *first), (S, *second))
                self.check_apart((*first, KEY), (*second, KEY))

    def test_alike(self):
        for first, second in ALIKE:
            with self.subTest(first=first, second=second):
                self.check_alike(first, second)
                self.assertIsNone(plain_likeness.find_test(GOOD, first, second))

    def test_a_row_and_itself(self):
        for first, second in APART + ALIKE:
            self.check_alike(first, first)
            self.check_alike(second, second)
            self.check_alike(first, spoil_names(first))

    def test_the_good_hosts_decide(self):
        first, second = (lock(N, KEY), digest(N)), (lock(N, KEY), digest(M))
        self.check_alike(first, second)
        self.check_apart(first, second, ("ann",))
        self.check_apart(first, second, ())
        self.check_alike((KEY,), (N,))
        self.check_apart((KEY,), (N,), ("bob",))

    def test_openings_in_any_order(self):
        chain = (lock(N, ("digest", M)), lock(M, K), lock(K, pair(S, HI)), ("box", S, "ann"), ANN)
        for shift in range(5):
            first = chain[shift:] + chain[:shift]
            self.check_apart(first + (digest(N),), first + (digest(digest(N)),))
            self.check_alike(first + (digest(("mark", 1, "n")),), first + (digest(("mark", 1, "m")),))
            self.check_apart(first + (N,), first + (M,))

    def test_by_chance(self):
        chance = random.Random(101)
        kinds = {}
        for _ in range(1500):
            first = tuple(term_by_chance(chance, chance.randint(0, 3)) for _ in range(chance.randint(1, 4)))
            second = other_row(chance, first)
            test = tell_apart(GOOD, first, second)
            kind = None if test is None else test[0]
            if first != second:
                kinds[kind] = kinds.get(kind, 0) + 1
            if kind is None:
                self.assertIsNone(tell_apart(GOOD, second, first))
                if first != second and kinds[kind] < 80:
                    self.assertIsNone(plain_likeness.find_test(GOOD, first, second), (first, second))
            else:
                self.check_apart(first, second)
        self.assertGreater(min(kinds[kind] for kind in (None, "works", "equal")), 100)

    def test_equal_calls(self):
        for first, second in APART:
            self.assertEqual(tell_apart(GOOD, first, second), tell_apart(GOOD, tuple(list(first)), tuple(list(second))))


ATOMS = (N, N, M, HI, ANN, BOB, MAL, KEY, OPEN_KEY, ("host", "ann"), ("road", 0))


def term_by_chance(chance, depth):
    if depth == 0 or chance.random() < 0.2:
        return chance.choice(ATOMS)
    kind = chance.choice(("pair", "lock", "lock", "digest", "box", "stamp"))
    inner = [term_by_chance(chance, depth - 1) for _ in range(plain.PLACES[kind])]
    return (kind, *inner, *([chance.choice(("ann", "mal"))] if kind in ("box", "stamp") else []))


def changed(chance, term):
    if chance.random() < 0.15:
        return term_by_chance(chance, 1)
    return tuple(changed(chance, item) if isinstance(item, tuple) and chance.random() < 0.5 else item for item in term)


def other_row(chance, row):
    way = chance.random()
    if way < 0.4:
        return tuple(changed(chance, term) for term in row)
    if way < 0.8:
        return tuple(spoil_names(term) if chance.random() < 0.9 else changed(chance, term) for term in row)
    return tuple(term_by_chance(chance, 2) for _ in row)


def chain_of_locks(session, many):
    """A mark, and locks that each hold the next mark and open with two of the mark before, so recipes double."""
    marks = [("mark", session, "a" + letter) for letter in string.ascii_lowercase[:many + 1]]
    return (marks[0], *[lock(marks[at + 1], pair(marks[at], marks[at])) for at in range(many)]), marks[-1]


def leaves(term, many):
    """Pairs of a term, so many times, in few levels."""
    return term if many == 1 else pair(leaves(term, many // 2), leaves(term, many - many // 2))


def opaque(count):
    """A term of a size that the road can neither open nor compose."""
    return digest(of_size(M, count - 1)) if count % 2 == 0 else digest(digest(of_size(M, count - 2)))


def full(term, levels):
    return samples.doubled(term, levels)


class Sizes(unittest.TestCase):
    def test_huge_recipes(self):
        for many in (3, 12, 24):
            (first, end), (second, other) = chain_of_locks(0, many), chain_of_locks(1, many)
            self.assertIsNone(tell_apart(GOOD, first, second))
            self.assertIsNone(tell_apart(GOOD, first + (digest(end),), second + (digest(other),)))
            self.assertIsNone(tell_apart(GOOD, first + (end,), second + (other,)))

    def test_only_a_huge_test(self):
        for many, fits in ((3, True), (8, True), (12, False), (24, False)):
            (first, end), (second, other) = chain_of_locks(0, many), chain_of_locks(1, many)
            for one, two in ((digest(end), digest(N)), (digest(end), S), (lock(HI, end), lock(HI, S)), (("box", end, "ann"), K)):
                for rows in ((first + (one,), second + (two,)), (second + (two,), first + (one,))):
                    if fits:
                        test = tell_apart(GOOD, *rows)
                        self.assertIs(tells(GOOD, *rows, test), True)
                        self.check_bounds(*rows, test)
                    else:
                        with self.assertRaises(TooLarge):
                            tell_apart(GOOD, *rows)

    def test_a_small_test_beside_a_huge_one(self):
        (first, end), (second, other) = chain_of_locks(0, 20), chain_of_locks(1, 20)
        for place in (0, 1, 5, 21):
            one = first[:place] + (digest(end), HI) + first[place:]
            two = second[:place] + (digest(N), HO) + second[place:]
            for rows in ((one, two), (two, one)):
                test = tell_apart(GOOD, *rows)
                self.assertIs(tells(GOOD, *rows, test), True)
                self.check_bounds(*rows, test)

    def check_bounds(self, first, second, test):
        for recipe in test[1:]:
            self.assertLessEqual(recipe_size(recipe), 2000)
            self.assertLessEqual(levels_of(recipe), 200)
            for row in (first, second):
                for inner in forms_within(recipe, "recipe", ()):
                    value = cook(GOOD, row, inner) if inner[0] in RECIPE_KINDS else None
                    self.assertTrue(value is None or size(value) <= 100000)

    def test_large_values(self):
        # The least recipe of the second letter has 512 parts, and 256 of them have the first letter as their value.
        for many, fits in ((10, True), (388, True), (390, False), (600, False)):
            large = digest(of_size(M, many - 1))
            self.assertEqual(size(large), many)
            rows = (N, digest(full(N, 8))), (large, M)
            for first, second in (rows, rows[::-1]):
                if fits:
                    test = tell_apart(GOOD, first, second)
                    self.assertIs(tells(GOOD, first, second, test), True)
                else:
                    with self.assertRaises(TooLarge):
                        tell_apart(GOOD, first, second)

    def check_bound(self, first, second, fits):
        for one, other in ((first, second), (second, first)):
            if fits:
                test = tell_apart(GOOD, one, other)
                self.assertIs(tells(GOOD, one, other, test), True)
                self.check_bounds(one, other, test)
            else:
                with self.assertRaises(TooLarge):
                    tell_apart(GOOD, one, other)

    def test_the_greatest_size(self):
        # The mark has a recipe of the size 2, so the pairs have one of 3 * 666 - 1.
        for many, fits in ((2, True), (3, True), (4, False), (5, False)):
            recipe = samples.deep(leaves(("left", L[0]), 666), many, (lambda inner: ("digest", inner),))
            self.assertEqual(recipe_size(recipe), 1997 + many)
            self.check_bound((pair(N, HI), self.digests(leaves(N, 666), many)), (pair(N, HI), S), fits)

    def test_the_largest_value(self):
        # Each of 250 leaves has a value of the size 399 on the other row.
        self.assertEqual(size(opaque(399)), 399)
        for many, fits in ((1, True), (2, False)):
            self.assertEqual(size(self.digests(leaves(opaque(399), 250), many)), 99999 + many)
            self.check_bound((N, self.digests(leaves(N, 250), many)), (opaque(399), M), fits)

    def test_the_most_levels(self):
        for many, fits in ((197, True), (198, True), (199, False)):
            self.check_bound((self.digests(HI, many),), (S,), fits)
            self.check_bound((N, self.digests(N, many)), (N, S), True)
        for many, fits in ((98, True), (99, True), (100, False)):
            term = samples.deep(N, 100, (lambda inner: lock(inner, K),))
            self.check_bound((term, K, self.digests(N, many)), (term, K, S), fits)

    def test_the_levels_of_a_stamp(self):
        # A half that comes out of so many boxes is a test only as the half of a stamp.
        for many, fits in ((197, True), (198, True), (199, False), (205, False)):
            first, second = [samples.deep(half, many, (lambda inner: lock(inner, K),)) for half in (ANN, N)]
            self.check_bound((first, K), (second, K), fits)

    def test_levels(self):
        # A row within the bounds whose last mark needs a recipe of more and more levels.
        for many, fits in ((60, True), (99, True), (100, False), (190, False)):
            first = self.nested(many)
            second = first[:-1] + (digest(S),)
            if fits:
                test = tell_apart(GOOD, first, second)
                self.assertIs(tells(GOOD, first, second, test), True)
                self.assertLessEqual(max(levels_of(recipe) for recipe in test[1:]), 200)
            else:
                with self.assertRaises(TooLarge):
                    tell_apart(GOOD, first, second)

    def nested(self, many):
        """A mark under so many locks with a known key, and under as many digests."""
        term = N
        for _ in range(many):
            term = lock(term, K)
        return (term, K, self.digests(N, many))

    def digests(self, term, many):
        return samples.deep(term, many, (digest,))

    def test_wide_rows(self):
        rows = [tuple(samples.deep(("mark", session, "n"), 45, (lambda inner: lock(inner, ("mark", session, "k")),)) for _ in range(39))
                + (("mark", session, "k"),) for session in (0, 1)]
        self.assertIsNone(tell_apart(GOOD, *rows))
        spoilt = rows[1][:7] + (lock(N, K),) + rows[1][8:]
        self.assertIs(tells(GOOD, rows[0], spoilt, tell_apart(GOOD, rows[0], spoilt)), True)

    def test_deep_rows(self):
        for many in (100, 198):
            first, second = (self.digests(N, many), N), (self.digests(M, many), M)
            self.assertIsNone(tell_apart(GOOD, first, second))
            test = tell_apart(GOOD, first, (second[0], N))
            self.assertIs(tells(GOOD, first, (second[0], N), test), True)


def of_size(mark, count):
    """A term of a size: pairs of a mark if the size is odd."""
    term = mark
    while size(term) + 2 <= count:
        term = pair(term, mark)
    return term if size(term) == count else digest(term)


class Runs(unittest.TestCase):
    WHERE = world((SHOW, ECHO, GIVE, GET), "show ann", "echo bob", "show bob")

    def test_the_same_run(self):
        for run in ((), ((0, None),), ((1, free(HI)), (1, None)), ((0, None), (1, L[0]), (1, None), (2, None))):
            self.assertIs(runs_alike(self.WHERE, run, self.WHERE, run), True)

    def test_other_schedules(self):
        runs = ((), ((0, None),), ((2, None),), ((0, None), (2, None)), ((2, None), (0, None)), ((0, None), (1, free(HI))))
        for first in runs:
            for second in runs:
                self.assertIs(runs_alike(self.WHERE, first, self.WHERE, second), first == second)

    def test_a_send_where_the_other_takes(self):
        swapped = world((SHOW, ECHO), "echo ann", "show bob")
        other = world((SHOW, ECHO), "show ann", "echo bob")
        self.assertIs(runs_alike(swapped, ((0, free(HI)),), other, ((0, None),)), False)
        self.assertIs(runs_alike(other, ((0, None),), swapped, ((0, free(HI)),)), False)
        self.assertIs(runs_alike(other, ((0, None), (1, L[0])), swapped, ((1, None), (0, L[0]))), False)
        # As many letters, by other moves.
        self.assertIs(runs_alike(other, ((0, None), (1, L[0])), swapped, ((0, free(HI)), (1, None))), False)

    def test_recipes_may_differ(self):
        for one, other, expected in ((free(HI), free(HO), False), (L[0], L[0], True), (L[0], ("left", ("pair", L[0], L[0])), True), (L[0], free(HI), False),
                                     (("digest", L[0]), L[0], False)):
            first, second = [((0, None), (1, recipe), (1, None)) for recipe in (one, other)]
            self.assertIs(runs_alike(self.WHERE, first, self.WHERE, second), expected)
        # What is taken is not seen.
        first, second = [((0, None), (1, recipe)) for recipe in (free(HI), L[0])]
        self.assertIs(runs_alike(self.WHERE, first, self.WHERE, second), True)

    def test_other_worlds(self):
        left, right = [world((role("vote", "send (lock (word " + word + ") (both A B))"),), "vote ann bob", "vote ann mal") for word in ("yes", "no")]
        self.assertIs(runs_alike(left, ((0, None),), right, ((0, None),)), True)
        self.assertIs(runs_alike(left, ((1, None),), right, ((1, None),)), False)
        boxes = [world((role("vote", "send (box (word " + word + ") B)"),), "vote ann bob") for word in ("yes", "no")]
        self.assertIs(runs_alike(boxes[0], ((0, None),), boxes[1], ((0, None),)), False)
        mixed = [world((role("vote", "send (box (pair (mark n) (word " + word + ")) B)"),), "vote ann bob") for word in ("yes", "no")]
        self.assertIs(runs_alike(mixed[0], ((0, None),), mixed[1], ((0, None),)), True)

    def test_impossible_moves(self):
        good, short = ((0, None), (1, L[0])), ((0, None),)
        for first, second, at in ((((5, None),), good, 0), (good, ((0, None), (0, None)), 1), (((0, L[0]),), ((0, None), (9, None)), 0),
                                  (((0, None), (1, L[3])), ((7, None),), 1), (short, ((0, None), (1, None)), 1)):
            for other in (self.WHERE, world((SHOW, ECHO), "show ann", "echo bob", good=("ann",))):
                with self.assertRaises(BadMove) as caught:
                    runs_alike(self.WHERE, first, other, second)
                self.assertEqual(caught.exception.at, at)

    def test_unlike_good_hosts(self):
        for good in ((), ("ann",), ("ann", "bob", "mal")):
            other = world((SHOW, ECHO), "show ann", "echo bob", good=good)
            for first, second in (((), ()), (((0, None),), ((0, None),)), ((), ((0, None),))):
                with self.assertRaises(BadRows):
                    runs_alike(self.WHERE, first, other, second)

    def test_letters_that_are_too_large(self):
        grow = role("grow", "take (var x)", "send (pair (pair (var x) (var x)) (pair (var x) (var x)))", parameters=("A",))
        where = world((grow,), *["grow ann"] * 4)
        large, small = self.growing(free(HI), 2000), ((0, free(HI)), (0, None))
        with self.assertRaises(TooLarge):
            runs_alike(where, large, where, ((5, None),))
        with self.assertRaises(TooLarge):
            runs_alike(where, small, where, large)
        with self.assertRaises(BadMove):
            runs_alike(where, ((5, None),), where, large)

    def growing(self, recipe, count):
        while recipe_size(recipe) * 4 + 3 <= count:
            recipe = ("pair", recipe, recipe)
        return ((0, recipe), (0, None))

    def test_tests_may_be_too_large(self):
        names = string.ascii_lowercase[:14]
        texts = ["(lock (mark {1}) (pair (mark {0}) (mark {0})))".format(*pair_) for pair_ in zip(names, names[1:])]
        texts = ["send (pair (pair {} {}) (pair {} {}))".format(*texts[at:at + 4]) for at in (0, 4, 8)]
        worlds = [world((role("chain", "send (mark a)", *texts, "send (digest (mark " + end + "))", parameters=("A",)),), "chain ann") for end in ("m", "q")]
        run = ((0, None),) * 5
        self.assertIs(runs_alike(worlds[0], run, worlds[1], run), False)
        self.assertIs(runs_alike(worlds[0], run, worlds[0], run), True)
        self.assertIs(runs_alike(worlds[0], run[:4], worlds[1], run[:4]), True)

    def test_parameter_names(self):
        self.assertIs(runs_alike(first_world=self.WHERE, first_run=(), second_world=self.WHERE, second_run=()), True)


if __name__ == "__main__":
    unittest.main()
