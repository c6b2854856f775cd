"""Points [7] and [8]: free atoms, and the values and sizes of recipes."""

import random
import unittest

from muffline.recipes import cook, is_free, recipe_size
from muffline.terms import levels_of, size
from tests import plain, samples

GOOD = ("ann", "bob")
M = ("mark", 0, "m")
N = ("mark", 1, "n")
X = ("var", 0, "x")
HI = ("word", "hi")
ANN, BOB, MAL = ("own", "ann"), ("own", "bob"), ("own", "mal")
KEY = ("both", "ann", "bob")
ROW = (M, ("pair", M, N), ("lock", N, KEY), KEY, ("box", M, "ann"), ANN, ("stamp", N, "bob"), X, ("digest", M))


def letter(at):
    return ("letter", at)


class Free(unittest.TestCase):
    def test_open_atoms(self):
        for good in ((), GOOD, ("hi",), ("ann", "hi", "zed")):
            for atom in (("host", "ann"), ("host", "mal"), HI, ("word", "ann"), ("road", 0), ("road", 999999)):
                self.assertIs(is_free(good, atom), True, (good, atom))

    def test_halves(self):
        self.assertIs(is_free(GOOD, ANN), False)
        self.assertIs(is_free(GOOD, BOB), False)
        self.assertIs(is_free(GOOD, MAL), True)
        self.assertIs(is_free(("bob",), ANN), True)

    def test_keys(self):
        for names, expected in ((("ann", "bob"), False), (("ann", "ann"), False), (("bob", "bob"), False),
                                (("ann", "mal"), True), (("bob", "zed"), True), (("aaa", "bob"), True),
                                (("mal", "zed"), True), (("mal", "mal"), True)):
            self.assertIs(is_free(GOOD, ("both", *names)), expected, names)

    def test_no_good_host_at_all(self):
        for atom in (ANN, BOB, MAL, KEY, ("both", "ann", "ann")):
            self.assertIs(is_free((), atom), True)

    def test_marks_and_variables(self):
        for good in ((), GOOD):
            for atom in (M, N, ("mark", 9, "ann"), X, ("var", 9, "mal")):
                self.assertIs(is_free(good, atom), False)

    def test_composed_terms(self):
        for wrap in samples.WRAPS:
            self.assertIs(is_free((), wrap(HI)), False)
            self.assertIs(is_free((), wrap(("own", "mal"))), False)

    def test_same_as_plain(self):
        for good in ((), ("ann",), ("abcdefgh",), ("a", "ann", "zzz")):
            for term in samples.good_terms():
                self.assertIs(is_free(good, term), plain.is_free(good, term))


class Values(unittest.TestCase):
    def test_each_kind(self):
        for recipe, value in (
            (letter(0), M), (letter(8), ("digest", M)), (letter(7), X),
            (("free", HI), HI), (("free", MAL), MAL), (("free", ("both", "ann", "mal")), ("both", "ann", "mal")),
            (("free", ("host", "ann")), ("host", "ann")), (("free", ("road", 999999)), ("road", 999999)),
            (("pair", letter(0), letter(3)), ("pair", M, KEY)), (("pair", letter(3), letter(0)), ("pair", KEY, M)),
            (("lock", letter(0), letter(3)), ("lock", M, KEY)), (("lock", letter(1), letter(7)), ("lock", ROW[1], X)),
            (("digest", letter(1)), ("digest", ROW[1])), (("box", letter(1), "zed"), ("box", ROW[1], "zed")),
            (("box", letter(1), "ann"), ("box", ROW[1], "ann")),
            (("stamp", letter(0), letter(5), "ann"), ("stamp", M, "ann")),
            (("stamp", letter(0), ("free", MAL), "mal"), ("stamp", M, "mal")),
            (("left", letter(1)), M), (("right", letter(1)), N), (("unstamp", letter(6), "bob"), N),
            (("unlock", letter(2), letter(3)), N), (("unbox", letter(4), letter(5), "ann"), M),
            (("left", ("pair", ("free", HI), letter(0))), HI), (("right", ("pair", ("free", HI), letter(0))), M),
            (("unlock", ("lock", letter(0), ("digest", letter(1))), ("digest", letter(1))), M),
            (("unbox", ("box", letter(0), "mal"), ("free", MAL), "mal"), M),
            (("unstamp", ("stamp", letter(0), ("free", MAL), "mal"), "mal"), M),
        ):
            self.assertEqual(cook(GOOD, ROW, recipe), value, recipe)

    def test_repeated_letters(self):
        self.assertEqual(cook(GOOD, (M, N, M), ("pair", letter(2), letter(1))), ("pair", M, N))

    def test_deep_ones(self):
        recipe = letter(0)
        for _ in range(198):
            recipe = ("digest", recipe)
        self.assertEqual(cook((), (M,), recipe), samples.deep(M, 198, (lambda term: ("digest", term),)))
        self.assertEqual(recipe_size(recipe), 199)
        for word, wrap, side in (("left", samples.WRAPS[0], 1), ("right", samples.WRAPS[1], 2)):
            term, recipe = samples.deep(M, 198, (wrap,)), letter(0)
            for _ in range(198):
                recipe = (word, recipe)
            self.assertEqual(cook((), (term,), recipe), M)
            self.assertIsNone(cook((), (term,), (word, recipe)))
            self.assertEqual(cook((), (term,), ("pair", letter(0), recipe))[side][0], "mark" if side == 2 else "pair")

    def test_deep_recipe_of_a_deep_letter(self):
        term, recipe = samples.deep(M, 199, (samples.WRAPS[4],)), letter(0)
        for _ in range(199):
            recipe = ("digest", recipe)
        value = cook((), (term,), recipe)
        self.assertEqual((levels_of(value), size(value)), (399, 399))
        lock = ("lock", ("free", HI), recipe)
        self.assertEqual(cook((), (term,), ("unlock", lock, recipe)), HI)

    def test_large_values(self):
        recipe = letter(0)
        for _ in range(9):
            recipe = ("pair", recipe, recipe)
        self.assertEqual(recipe_size(recipe), 1023)
        term = samples.deep(M, 193, (samples.WRAPS[4],))
        value = cook((), (term,), recipe)
        self.assertEqual((size(value), value), (99839, samples.doubled(term, 9)))
        self.assertEqual(cook((), (term, HI), ("unlock", ("lock", letter(1), recipe), recipe)), HI)


class Failures(unittest.TestCase):
    def assert_fails(self, recipe, row=ROW, good=GOOD):
        self.assertIsNone(cook(good, row, recipe), recipe)
        for outer in (("digest", recipe), ("pair", letter(0), recipe), ("pair", recipe, letter(0)),
                      ("left", ("pair", letter(0), recipe)), ("right", ("pair", recipe, letter(0))),
                      ("unlock", ("lock", letter(0), recipe), recipe), ("box", ("box", recipe, "ann"), "bob"),
                      ("stamp", recipe, letter(5), "ann"), ("stamp", letter(0), recipe, "ann")):
            self.assertIsNone(cook(good, row, outer), outer)

    def test_letters_past_the_row(self):
        for at in (9, 10, 99, 999999, 1000000):
            self.assert_fails(letter(at))
        self.assert_fails(letter(0), row=())
        self.assert_fails(letter(-1))

    def test_atoms_that_are_not_free(self):
        for atom in (ANN, BOB, KEY, ("both", "bob", "bob"), M, ("mark", 5, "q")):
            self.assert_fails(("free", atom))
        self.assertEqual(cook((), ROW, ("free", ANN)), ANN)
        self.assertEqual(cook(("bob",), ROW, ("free", KEY)), KEY)

    def test_another_kind_of_term(self):
        for at, term in enumerate(ROW):
            if term[0] != "pair":
                self.assert_fails(("left", letter(at)))
                self.assert_fails(("right", letter(at)))
            if term[0] != "stamp":
                self.assert_fails(("unstamp", letter(at), "bob"))
                self.assert_fails(("unstamp", letter(at), "ann"))
            if term[0] != "lock":
                self.assert_fails(("unlock", letter(at), letter(3)))
            if term[0] != "box":
                self.assert_fails(("unbox", letter(at), letter(5), "ann"))

    def test_another_host(self):
        self.assert_fails(("unstamp", letter(6), "ann"))
        self.assert_fails(("unbox", letter(4), letter(5), "bob"))
        row = (("box", M, "ann"), ANN, BOB)
        self.assertEqual(cook(GOOD, row, ("unbox", letter(0), letter(1), "ann")), M)
        self.assert_fails(("unbox", letter(0), letter(2), "bob"), row=row)
        self.assert_fails(("stamp", letter(0), letter(5), "bob"))

    def test_another_half(self):
        row = (("box", M, "ann"), ANN, BOB, ("host", "ann"))
        self.assert_fails(("unbox", letter(0), letter(2), "ann"), row=row)
        self.assert_fails(("unbox", letter(0), letter(3), "ann"), row=row)
        self.assert_fails(("unbox", letter(0), ("free", MAL), "ann"), row=row)
        self.assert_fails(("stamp", letter(0), letter(2), "ann"), row=row)
        self.assert_fails(("stamp", letter(0), letter(3), "ann"), row=row)
        self.assert_fails(("stamp", letter(0), ("free", MAL), "ann"), row=row)

    def test_another_key(self):
        self.assert_fails(("unlock", letter(2), letter(5)))
        self.assert_fails(("unlock", letter(2), ("free", ("both", "ann", "mal"))))
        self.assert_fails(("unlock", letter(2), letter(2)))
        row = (("lock", M, ("pair", N, HI)), N)
        self.assertEqual(cook(GOOD, row, ("unlock", letter(0), ("pair", letter(1), ("free", HI)))), M)
        self.assert_fails(("unlock", letter(0), ("pair", ("free", HI), letter(1))), row=row)


NO_RECIPES = (
    None, 0, -1, 7, "", "letter", "(letter 0)", (), ((),), (None,), (0,), ("letter",), ("letter", None), ("letter", "0"),
    ("letter", ()), ("letter", (0,)), ("letter", -1), ("letter", 0, 0), ("letter", letter(0)), (letter(0),),
    (letter(0), letter(0)), ("free",), ("free", None), ("free", 0), ("free", "hi"), ("free", ()), ("free", "word", "hi"),
    ("free", ("word",)), ("free", ("word", "Hi")), ("free", ("word", "")), ("free", ("word", "ninechars")),
    ("free", ("word", 5)), ("free", ("word", "hi", "hi")), ("free", ("host", "A")), ("free", ("road", -1)),
    ("free", ("road", 1000000)), ("free", ("road", "1")), ("free", ("both", "mal", "ann")), ("free", ("both", "mal")),
    ("free", ("own",)), ("free", X), ("free", ("digest", HI)), ("free", ("pair", HI, HI)), ("free", letter(0)),
    ("free", ("free", HI)), ("free", HI, HI), ("free", ("mark", "m")), ("free", ("mark", 10, "m")), ("free", ("var", "x")),
    ("pair",), ("pair", letter(0)), ("pair", letter(0), letter(0), letter(0)), ("pair", letter(0), None),
    ("pair", None, letter(0)), ("pair", letter(0), "ann"), ("pair", 0, 1), ("lock", letter(0)), ("lock", letter(0), "ann"),
    ("lock", letter(0), letter(1), "ann"), ("digest",), ("digest", None), ("digest", 0), ("digest", letter(0), letter(0)),
    ("digest", M), ("box", letter(0)), ("box", letter(0), letter(0)), ("box", "ann", letter(0)), ("box", letter(0), "Ann"),
    ("box", letter(0), ""), ("box", letter(0), None), ("box", letter(0), 5), ("box", letter(0), ("host", "ann")),
    ("box", letter(0), letter(5), "ann"), ("stamp", letter(0), "ann"), ("stamp", letter(0), letter(5)),
    ("stamp", letter(0), letter(5), "Ann"), ("stamp", letter(0), letter(5), None), ("stamp", letter(0), letter(5), ANN),
    ("stamp", letter(0), ANN, "ann"), ("stamp", letter(0), letter(5), "ann", "ann"), ("left",), ("left", 1),
    ("left", ROW[1]), ("left", letter(1), letter(1)), ("right", None), ("right", letter(1), "ann"),
    ("unstamp", letter(6)), ("unstamp", letter(6), "Bob"), ("unstamp", letter(6), None), ("unstamp", letter(6), letter(0), "bob"),
    ("unstamp", letter(6), 0), ("unlock", letter(2)), ("unlock", letter(2), KEY), ("unlock", letter(2), letter(3), "ann"),
    ("unlock", letter(2), None), ("unbox", letter(4), letter(5)), ("unbox", letter(4), "ann"),
    ("unbox", letter(4), letter(5), "Ann"), ("unbox", letter(4), letter(5), None), ("unbox", letter(4), ANN, "ann"),
    M, HI, KEY, X, ROW[1], ROW[2], ("word", "letter"), ("LETTER", 0), ("letter ", 0), ("open", letter(0)),
    ("undigest", letter(8)), (None, letter(0)), (0, 0), ((letter(0)),) * 3, ("send", letter(0)),
)


class NoRecipes(unittest.TestCase):
    def test_alone(self):
        for value in NO_RECIPES:
            self.assertIsNone(cook(GOOD, ROW, value), value)

    def test_within_recipes(self):
        for value in NO_RECIPES:
            for recipe in (("digest", value), ("pair", value, letter(0)), ("pair", letter(0), value),
                           ("box", value, "ann"), ("left", ("pair", letter(0), value)), ("unlock", letter(2), value),
                           ("right", ("pair", value, letter(0))), ("stamp", value, letter(5), "ann")):
                self.assertIsNone(cook(GOOD, ROW, recipe), recipe)

    def test_within_a_deep_recipe(self):
        for value in (None, ("letter", "0"), ("free", X), M, ("letter", 9)):
            recipe = value
            for _ in range(190):
                recipe = ("pair", recipe, letter(0))
            self.assertIsNone(cook(GOOD, ROW, recipe))

    def test_deep_values_of_any_form(self):
        value = ()
        for _ in range(198):
            value = (value,)
        self.assertIsNone(cook(GOOD, ROW, value))
        self.assertIsNone(cook(GOOD, ROW, ("digest", value)))
        self.assertIsNone(cook(GOOD, ROW, ("free", value)))
        self.assertIsNone(cook(GOOD, ROW, ("letter", value)))
        self.assertIsNone(cook(GOOD, ROW, ((letter(0),) * 9000)))

    def test_spoilt_atoms(self):
        for term in samples.spoilt_terms():
            self.assertIsNone(cook((), ROW, ("free", term)))


class Sizes(unittest.TestCase):
    def test_each_kind(self):
        a, b = letter(0), ("free", HI)
        for recipe, expected in (
            (a, 1), (b, 1), (("free", KEY), 1), (("pair", a, b), 3), (("lock", b, a), 3), (("digest", b), 2),
            (("box", a, "ann"), 2), (("stamp", a, b, "ann"), 3), (("left", a), 2), (("right", a), 2),
            (("unstamp", a, "ann"), 2), (("unlock", a, a), 3), (("unbox", a, a, "ann"), 3),
            (("stamp", ("pair", a, a), ("left", ("unlock", b, b)), "ann"), 8),
        ):
            self.assertEqual(recipe_size(recipe), expected, recipe)

    def test_large_ones(self):
        recipe = letter(0)
        for _ in range(9):
            recipe = ("unlock", recipe, recipe)
        self.assertEqual(recipe_size(recipe), 1023)


class SameAsPlain(unittest.TestCase):
    def test_all_small_recipes(self):
        row = (("pair", ("lock", M, ANN), ANN), ("stamp", ("box", N, "ann"), "bob"))
        for layer in plain.recipes_by_size(GOOD, row, [MAL, HI], ["ann", "bob"], 4):
            for recipe, value in layer:
                self.assertEqual(cook(GOOD, row, recipe), value, recipe)
                self.assertEqual(recipe_size(recipe), plain.recipe_size(recipe))

    def test_recipes_by_chance(self):
        chance = random.Random(5)
        values = 0
        for _ in range(4000):
            recipe = recipe_by_chance(chance, 4)
            value = plain.cook(GOOD, ROW, recipe)
            values += value is not None
            self.assertEqual(cook(GOOD, ROW, recipe), value, recipe)
            self.assertEqual(recipe_size(recipe), plain.recipe_size(recipe))
        self.assertGreater(values, 500)


def recipe_by_chance(chance, depth):
    kind = chance.choice("letter letter free pair lock digest box stamp left right unstamp unlock unbox".split())
    if depth == 0 or kind == "letter":
        return letter(chance.randrange(len(ROW)))
    if kind == "free":
        return ("free", chance.choice((HI, MAL, ANN, KEY, M)))
    words = {"box": 1, "unstamp": 1, "stamp": 2, "unbox": 2, "pair": 2, "lock": 2, "unlock": 2}
    items = [recipe_by_chance(chance, depth - 1) for _ in range(words.get(kind, 1))]
    names = [chance.choice(GOOD + ("mal",))] if kind in ("box", "unstamp", "stamp", "unbox") else []
    return (kind, *items, *names)


class General(unittest.TestCase):
    def test_parameter_names(self):
        self.assertIs(is_free(good=GOOD, atom=HI), True)
        self.assertEqual(cook(good=GOOD, row=ROW, recipe=letter(0)), M)
        self.assertEqual(recipe_size(recipe=letter(0)), 1)


if __name__ == "__main__":
    unittest.main()
