"""Point [11]: walls, which show that a term is not reachable."""

import itertools
import random
import unittest

from muffline.recipes import opened, reachable, recipe_for, wall_for, wall_holds
from muffline.terms import parts_of_row
from tests import plain, samples
from tests.test_reachable import ANN, BOB, GOOD, HI, K, KEY, M, MAL, N, OPEN_KEY, S, X, mark, term_by_chance

LOCK = ("lock", M, KEY)
ROW = (LOCK, ("digest", M))


class WallFor(unittest.TestCase):
    def test_example(self):
        self.assertEqual(wall_for(GOOD, ROW, M), (("digest", M), LOCK))
        self.assertIsNone(wall_for(GOOD, ROW + (KEY,), M))
        self.assertIsNone(wall_for(GOOD, ROW, OPEN_KEY))

    def test_it_is_the_opened_row(self):
        row = (("pair", LOCK, N), ("stamp", K, "mal"), ("lock", S, ("digest", K)), N)
        self.assertEqual(wall_for(GOOD, row, M), opened(GOOD, row))
        self.assertEqual(wall_for(GOOD, row, ("pair", M, N)), opened(GOOD, row))
        self.assertIn(S, wall_for(GOOD, row, M))

    def test_empty_rows(self):
        self.assertEqual(wall_for(GOOD, (), M), ())
        self.assertIsNone(wall_for(GOOD, (), HI))

    def test_exactly_one_of_both_is_none(self):
        chance = random.Random(21)
        walls = 0
        for _ in range(300):
            row = tuple(term_by_chance(chance, 3) for _ in range(chance.randrange(4)))
            for term in parts_of_row(row) + (M, ("pair", N, HI), ("stamp", K, "ann"), ANN, KEY):
                wall = wall_for(GOOD, row, term)
                self.assertIs(wall is None, recipe_for(GOOD, row, term) is not None)
                self.assertIs(wall is None, reachable(GOOD, row, term))
                if wall is not None:
                    walls += 1
                    self.assertEqual(wall, plain.opened(GOOD, row))
                    self.assertIs(wall_holds(GOOD, row, term, wall), True)
        self.assertGreater(walls, 300)


class WallHolds(unittest.TestCase):
    def test_order_and_repetitions(self):
        row = (("pair", LOCK, N), ("stamp", K, "mal"), N)
        wall = wall_for(GOOD, row, M)
        self.assertEqual(len(wall), 5)
        for other in itertools.permutations(wall):
            self.assertIs(wall_holds(GOOD, row, M, other), True)
        self.assertIs(wall_holds(GOOD, row, M, wall + wall[::-1]), True)
        self.assertIs(wall_holds(GOOD, row, M, wall[:2] * 3 + wall), True)

    def test_a_term_left_out(self):
        row = (("pair", LOCK, N), ("stamp", K, "mal"), ("lock", S, ("digest", K)), ("box", ("mark", 1, "m"), "mal"))
        wall = wall_for(GOOD, row, M)
        self.assertEqual(len(wall), 9)
        for at in range(len(wall)):
            self.assertIs(wall_holds(GOOD, row, M, wall[:at] + wall[at + 1:]), False, wall[at])

    def test_each_thing_that_must_be_there(self):
        for more, row, due in (
            (ROW, (("pair", N, HI),), N), (ROW, (("pair", HI, N),), N), (ROW, (("stamp", N, "ann"),), N),
            (ROW, (("lock", N, HI),), N), (ROW, (("lock", N, K), K), N), (ROW, (("box", N, "mal"),), N),
            (ROW, (("box", N, "ann"), ANN), N), (ROW, (("lock", N, ("digest", K)), K), N),
            (ROW, (("lock", N, ("stamp", K, "mal")), K), N),
        ):
            wall = more + row
            if row[0][0] == "pair":
                wall += (HI,)
            self.assertIs(wall_holds(GOOD, more + row, M, wall), False, row)
            self.assertIs(wall_holds(GOOD, more + row, M, wall + (due,)), True, row)

    def test_what_is_opened_from_the_wall_alone(self):
        # The letters alone do not open this lock, but with one term more it must be open.
        row = (("lock", N, K),)
        self.assertIs(wall_holds(GOOD, row, M, row), True)
        self.assertIs(wall_holds(GOOD, row, M, row + (K,)), False)
        self.assertIs(wall_holds(GOOD, row, M, row + (K, N)), True)
        self.assertIs(wall_holds(GOOD, row, N, row + (K, N)), False)
        self.assertIs(wall_holds(GOOD, row, M, row + (N,)), True)

    def test_one_term_more(self):
        wall = wall_for(GOOD, ROW, M)
        for term in (N, HI, X, ("digest", N), ("lock", N, K), ("box", M, "bob"), ("digest", ("pair", M, M)), ANN):
            self.assertIs(wall_holds(GOOD, ROW, M, wall + (term,)), True, term)
            self.assertIs(wall_holds(GOOD, ROW, M, (term,) + wall), True, term)
        for term in (M, KEY, ("pair", M, N), ("pair", N, N), ("stamp", N, "bob"), ("lock", N, HI), ("box", N, "mal")):
            self.assertIs(wall_holds(GOOD, ROW, M, wall + (term,)), False, term)

    def test_the_term_itself_in_the_wall(self):
        self.assertIs(wall_holds(GOOD, ROW, M, ROW + (M,)), False)
        self.assertIs(wall_holds(GOOD, (), M, (M,)), False)

    def test_the_term_is_built_from_the_wall(self):
        self.assertIs(wall_holds(GOOD, (), ("pair", M, N), (M,)), True)
        self.assertIs(wall_holds(GOOD, (), ("pair", M, N), (M, N)), False)
        self.assertIs(wall_holds(GOOD, (), ("stamp", M, "ann"), (M,)), True)
        self.assertIs(wall_holds(GOOD, (), ("stamp", M, "mal"), (M,)), False)
        self.assertIs(wall_holds(GOOD, (), HI, ()), False)

    def test_the_row_alone(self):
        self.assertIs(wall_holds(GOOD, ROW, M, ROW), True)
        self.assertIs(wall_holds(GOOD, ROW, M, ROW[:1]), False)
        self.assertIs(wall_holds(GOOD, (("pair", LOCK, N),), M, (("pair", LOCK, N),)), False)
        self.assertIs(wall_holds(GOOD, ROW + (KEY,), M, ROW + (KEY,)), False)

    def test_the_empty_tuple(self):
        self.assertIs(wall_holds(GOOD, (), M, ()), True)
        self.assertIs(wall_holds(GOOD, (), X, ()), True)
        self.assertIs(wall_holds(GOOD, (), OPEN_KEY, ()), False)
        self.assertIs(wall_holds(GOOD, ROW, M, ()), False)

    def test_other_good_hosts(self):
        self.assertIs(wall_holds((), ROW, M, ROW), False)
        self.assertIs(wall_holds(("ann",), ROW, M, ROW), False)
        self.assertIs(wall_holds(("ann", "bob", "mal"), ROW, OPEN_KEY, ROW), True)

    def test_no_wall_of_a_reachable_term(self):
        pool = [M, N, K, KEY, ("pair", M, N), ("lock", M, K), ("lock", K, N), ("digest", M), ("stamp", N, "bob")]
        rows = ((("lock", M, K), ("lock", K, N), N), (("lock", M, K), ("lock", K, ("digest", HI))), (LOCK, KEY),
                (("stamp", ("box", M, "mal"), "ann"),))
        for row in rows:
            self.assertIs(reachable(GOOD, row, M), True)
            for many in range(len(pool) + 1):
                for more in itertools.combinations(pool, many):
                    self.assertIs(wall_holds(GOOD, row, M, row + more), False)
                    self.assertIs(wall_holds(GOOD, row, M, more), False)

    def test_same_as_plain(self):
        chance = random.Random(22)
        held = 0
        for _ in range(1500):
            row = tuple(term_by_chance(chance, 2) for _ in range(chance.randrange(3)))
            term = term_by_chance(chance, 1)
            wall = list(opened(GOOD, row)) + [term_by_chance(chance, 2) for _ in range(chance.randrange(3))]
            chance.shuffle(wall)
            if wall and chance.random() < 0.3:
                wall.pop()
            expected = plain.is_wall(GOOD, row, term, wall)
            held += expected
            self.assertIs(wall_holds(GOOD, row, term, tuple(wall)), expected, (row, term, wall))
            if expected:
                self.assertIs(reachable(GOOD, row, term), False)
        self.assertGreater(held, 300)

    def test_deep_and_many(self):
        row = tuple(samples.deep(mark(name), 199, (samples.WRAPS[6],)) for name in "abcdef")
        wall = wall_for(GOOD, row, M)
        self.assertEqual(len(wall), 1200)
        self.assertIs(wall_holds(GOOD, row, M, wall), True)
        self.assertIs(wall_holds(GOOD, row, M, wall[:700] + wall[701:]), False)
        self.assertIs(wall_holds(GOOD, row, mark("c"), wall), False)


class General(unittest.TestCase):
    def test_parameter_names(self):
        self.assertEqual(wall_for(good=GOOD, row=ROW, term=M), ROW[::-1])
        self.assertIs(wall_holds(good=GOOD, row=ROW, term=M, wall=ROW), True)

    def test_halves(self):
        self.assertEqual(wall_for(GOOD, (BOB,), ANN), (BOB,))
        self.assertIsNone(wall_for(GOOD, (BOB,), MAL))


if __name__ == "__main__":
    unittest.main()
