"""Points [24], [25] and [26]: cases, and how they unfold."""

import itertools
import random
import unittest

from muffline.cases import is_settled, next_demand, start_case, unfold
from muffline.claims import broken, check_claim
from muffline.errors import TooLarge
from muffline.runs import replay, schedule_of, tidy
from muffline.terms import size
from tests import plain, plain_worlds, samples
from tests.test_runs import HI, HO, of_size, run_by_chance
from tests.worlds import (
    ANSWER, ANSWER_BY_NAME, ASK, ASK_BY_NAME, ECHO, GET, GET_TWICE, GIVE, IDLE, KEYS, SHOW, STAMPED, STAMPER, role, world,
)

N, M, X, Y = ("mark", "n"), ("mark", "m"), ("var", "x"), ("var", "y")
HOST_A, HOST_B = ("host", "A"), ("host", "B")
KEY = ("both", "ann", "bob")
V, W, U = ("var", 1, "v"), ("var", 1, "w"), ("var", 0, "u")
A, B, C = ("mark", 0, "a"), ("mark", 0, "b"), ("mark", 0, "c")
START = ("state", (), (), (), ())
NOTHING = ("hidden", 0, HI)


def digest(term):
    return ("digest", term)


def pair(one, other):
    return ("pair", one, other)


def tree_of(where, claim, most=3000):
    """All pairs (case, next cases or None) of a tree, from the top."""
    found, pending = [], [start_case()]
    while pending:
        case = pending.pop(0)
        after = unfold(where, claim, case)
        found.append((case, after))
        pending += after or ()
        assert len(found) < most
    return found


SMALL = (
    (world((ASK, ANSWER), "ask ann mal", "answer bob ann"), ("hidden", 1, M)),
    (world((ASK_BY_NAME, ANSWER_BY_NAME), "ask ann mal", "answer bob ann"), ("hidden", 1, M)),
    (world((ASK, ANSWER), "ask ann bob", "answer bob ann"), ("agrees", 0, (X, N), "answer", 2, (M, Y))),
    (world((ASK, ANSWER), "answer bob ann", "ask ann mal"), ("agrees", 0, (HOST_A, HOST_B), "ask", 3, (HOST_A, HOST_B))),
    (world((GIVE, GET), "give ann bob", "get bob ann", "get bob ann"), ("each", "get", (X,), "give", 1, (N,))),
    (world((GIVE, GET), "give ann bob", "get bob ann", "give ann bob"), ("each", "get", (X,), "give", 1, (N,))),
    (world((ECHO, SHOW), "echo ann", "show ann", "echo bob"), ("hidden", 2, X)),
    (world((KEYS, ECHO), "keys ann bob", "echo mal"), ("hidden", 0, N)),
    (world((KEYS, GET_TWICE), "keys ann bob", "gets bob ann"), ("hidden", 0, N)),
    (world((STAMPED, STAMPER), "stamped ann bob", "stamper bob ann"), ("agrees", 0, (X, N), "stamper", 2, (M, Y))),
    (world((STAMPED, STAMPER), "stamped ann bob", "stamper bob ann"), ("agrees", 1, (Y, M), "stamped", 1, (N, HI))),
    (world((IDLE, SHOW), "idle ann", "show bob"), ("agrees", 0, (), "show", 1, ())),
)

LARGER = (
    (world((ASK_BY_NAME, ANSWER_BY_NAME), "ask ann mal", "answer bob ann", "ask ann bob"), ("hidden", 1, M)),
    (world((STAMPED, STAMPER, ECHO), "stamped ann bob", "stamper bob ann", "echo ann"), ("hidden", 2, X)),
)


class Parts(unittest.TestCase):
    def test_start(self):
        self.assertEqual(start_case(), START)
        self.assertIs(is_settled(start_case()), True)

    def test_next_demand(self):
        for demands, expected in (
            ((), -1), (((0, V),), -1), (((0, V), (1, W), (1, V)), -1), (((0, A),), 0), (((0, V), (0, digest(V))), 1),
            (((0, digest(V)), (0, V)), 0), (((0, V), (1, A), (1, B)), 1), (((0, V), (1, W), (2, KEY), (2, V)), 2), (((0, HI),), 0),
        ):
            self.assertEqual(next_demand(demands), expected, demands)
            self.assertIs(is_settled(("move", (), (), demands, ())), expected == -1)
            self.assertIs(is_settled(("state", (0,), (A,), demands, ((U, A),))), expected == -1)
        self.assertEqual(next_demand(demands=((0, A),)), 0)
        self.assertIs(is_settled(case=START), True)


class States(unittest.TestCase):
    def test_not_settled(self):
        where = world((ECHO, SHOW), "echo ann", "show bob")
        for claim in (NOTHING, ("hidden", 0, X), ("agrees", 0, (), "show", 0, ()), ("each", "echo", (), "show", 0, ())):
            for demands in (((0, A),), ((0, V), (0, digest(V)))):
                self.assertIsNone(unfold(where, claim, ("state", (0,), (), demands, ())))

    def test_without_sessions(self):
        self.assertEqual(unfold(world((ECHO,)), ("each", "echo", (), "echo", 0, ()), START), ())

    def test_sends_and_takes(self):
        where = world((ECHO, SHOW), "echo ann", "show bob")
        x = ("var", 0, "x")
        claim = ("agrees", 1, (), "echo", 0, ())
        self.assertEqual(unfold(where, claim, START), (
            ("move", (0,), (), ((0, x),), ()), ("state", (1,), (("mark", 1, "n"),), (), ())))
        after = ("state", (1,), (("mark", 1, "n"),), (), ())
        self.assertEqual(unfold(where, claim, after), (("move", (1, 0), after[2], ((1, x),), ()),))
        case = ("state", (1, 0), after[2], ((1, x),), ())
        self.assertEqual(unfold(where, claim, case), (("state", (1, 0, 0), after[2] + (digest(x),), ((1, x),), ()),))
        self.assertEqual(unfold(where, claim, ("state", (1, 0, 0), after[2] + (digest(x),), ((1, x),), ())), ())

    def test_bindings_are_applied(self):
        where = world((ECHO,), "echo ann")
        x = ("var", 0, "x")
        case = ("state", (0,), (A,), (), ((x, pair(A, HI)),))
        self.assertEqual(unfold(where, ("each", "echo", (), "echo", 0, ()), case),
                         (("state", (0, 0), (A, digest(pair(A, HI))), (), ((x, pair(A, HI)),)),))
        again = world((role("r", "take (var x)", "take (box (pair (var x) (var y)) A)", parameters=("A",)),), "r ann")
        case = ("state", (0,), (A,), ((0, V),), ((x, V),))
        self.assertEqual(unfold(again, NOTHING, case)[1:],
                         (("move", (0, 0), (A,), ((0, V), (1, ("box", pair(V, ("var", 0, "y")), "ann"))), ((x, V),)),))

    def test_who_may_move_next(self):
        # take-take, send-send and take-send of a greater session ahead of a lesser one may be exchanged, send-take may not.
        sends, takes = role("s", "send (mark n)", "send (mark m)", parameters=("A",)), role("t", "take (var x)", "take (var y)", parameters=("A",))
        for first, second, word, other, expected in (("s", "s", "s", "s", False), ("t", "t", "t", "t", False), ("s", "t", "s", "t", False),
                                                     ("t", "s", "t", "s", True)):
            where = world((sends, takes), first + " ann", second + " ann")
            cases = unfold(where, NOTHING, ("state", (1,), (A,) if second == "s" else (), (), ()))
            self.assertEqual([case[1][-1] for case in cases if case[0] != "goal"], [0, 1] if expected else [1], (first, second))
            cases = unfold(where, NOTHING, ("state", (0,), (A,) if first == "s" else (), (), ()))
            self.assertEqual([case[1][-1] for case in cases if case[0] != "goal"], [0, 1])

    def test_all_sessions_in_order(self):
        where = world((SHOW, IDLE, ECHO), "show ann", "idle ann", "echo ann", "show ann")
        cases = unfold(where, NOTHING, START)
        self.assertEqual([(case[0], case[1]) for case in cases], [("goal", ()), ("state", (0,)), ("move", (2,)), ("state", (3,))])
        cases = unfold(where, NOTHING, ("state", (3,), (("mark", 3, "n"),), (), ()))
        self.assertEqual([(case[0], case[1]) for case in cases], [("goal", (3,)), ("move", (3, 2))])
        cases = unfold(where, NOTHING, ("state", (2,), (), ((0, ("var", 2, "x")),), ()))
        self.assertEqual([(case[0], case[1]) for case in cases], [("goal", (2,)), ("state", (2, 2)), ("state", (2, 3))])

    def test_goals(self):
        where = world((ECHO, SHOW), "echo ann", "show bob")
        x = ("var", 0, "x")
        for claim, case, expected in (
            (("hidden", 0, X), START, None), (("hidden", 0, HI), START, ((0, HI),)), (("hidden", 1, N), START, ((0, ("mark", 1, "n")),)),
            (("hidden", 0, pair(X, HI)), ("state", (0,), (A,), ((0, x),), ()), ((0, x), (1, pair(x, HI)))),
            (("hidden", 0, X), ("state", (0,), (A, B), (), ((x, digest(A)),)), ((2, digest(A)),)),
            (("hidden", 0, X), ("state", (1,), (A,), (), ()), None), (("hidden", 0, X), ("state", (1,), (A,), (), ((x, A),)), None),
        ):
            check_claim(where, claim)
            goals = [after for after in unfold(where, claim, case) if after[0] == "goal"]
            self.assertEqual(goals, [] if expected is None else [("goal", case[1], case[2], expected, case[4])])
            if goals:
                self.assertEqual(unfold(where, claim, case)[0], goals[0])

    def test_other_claims_have_no_goals(self):
        for where, claim in SMALL:
            if claim[0] != "hidden":
                self.assertFalse([case for case, _ in tree_of(where, claim) if case[0] == "goal"])

    def test_broken_agreement(self):
        where = world((GIVE, GET), "give ann bob", "get bob ann")
        x, n = ("var", 1, "x"), ("mark", 0, "n")
        row = (("lock", n, KEY),)
        agrees, each = ("agrees", 1, (X,), "give", 1, (N,)), ("each", "get", (X,), "give", 1, (N,))
        for claim in (agrees, each):
            self.assertEqual(unfold(where, claim, ("state", (0, 1), row, (), ((x, n),))), ())
            self.assertIsNone(unfold(where, claim, ("state", (0, 1), row, ((1, x),), ())))
            self.assertIsNone(unfold(where, claim, ("state", (0, 1), row, (), ((x, A),))))
            self.assertIsNone(unfold(where, claim, ("state", (1,), (), (), ((x, n),))))
            self.assertIsNotNone(unfold(where, claim, ("state", (0,), row, (), ((x, A),))))
            self.assertIsNotNone(unfold(where, claim, START))

    def test_equal_means_the_same_with_the_bindings(self):
        where = world((ECHO,), "echo ann", "echo bob")
        one, other = ("var", 0, "x"), ("var", 1, "x")
        claim = ("each", "echo", (X,), "echo", 2, (X,))
        full = (0, 0, 1, 1)
        for bindings, expected in ((((other, one),), ()), ((), None), (((one, A), (other, A)), ()), (((one, A), (other, B)), None),
                                   (((one, digest(V)), (other, digest(V))), ()), (((one, digest(V)), (other, digest(W))), None)):
            self.assertEqual(unfold(where, claim, ("state", full, (), (), bindings)), expected)

    def test_the_crowd_decides(self):
        where = world((GIVE, GET), "give ann bob", "get bob ann", "get bob ann")
        n, one, other = ("mark", 0, "n"), ("var", 1, "x"), ("var", 2, "x")
        row = (("lock", n, KEY),)
        case = ("state", (0, 1, 2), row, (), ((one, n), (other, n)))
        self.assertIsNone(unfold(where, ("each", "get", (X,), "give", 1, (N,)), case))
        self.assertEqual(unfold(where, ("agrees", 1, (X,), "give", 1, (N,)), case), ())
        self.assertEqual(unfold(where, ("agrees", 2, (X,), "give", 1, (N,)), case), ())


class Demands(unittest.TestCase):
    WHERE = world((ECHO, SHOW), "echo ann", "show bob")

    def check(self, case, expected):
        for stage in ("move", "goal"):
            wanted = None if expected is None else tuple((stage, *after[1:]) for after in expected)
            self.assertEqual(unfold(self.WHERE, NOTHING, (stage, *case[1:])), wanted)
            self.assertEqual(plain_worlds.unfold(self.WHERE, NOTHING, (stage, *case[1:])), wanted)

    def test_settled(self):
        for demands in ((), ((0, V),), ((0, V), (1, W))):
            case = ("move", (0,), (A,), demands, ((U, W),))
            self.assertEqual(unfold(self.WHERE, NOTHING, case), (("state", *case[1:]),))
            self.assertIsNone(unfold(self.WHERE, NOTHING, ("goal", *case[1:])))

    def test_a_demand_drops_out(self):
        row = (("lock", A, digest(V)), B)
        for many, term, fits in ((0, HI, True), (0, ("own", "mal"), True), (1, row[0], True), (0, row[0], False), (1, A, True), (1, digest(A), True),
                                 (1, B, False), (2, B, True), (2, pair(A, B), True), (1, V, None)):
            demands = ((0, V), (many, term), (2, digest(C)))
            case = ("move", (), row, demands, ())
            if fits:
                self.check(case, (("move", (), row, (demands[0], demands[2]), ()),))
            elif fits is None:
                self.assertNotEqual(unfold(self.WHERE, NOTHING, case), (("move", (), row, (demands[0], demands[2]), ()),))
            else:
                self.assertTrue(all(len(after[3]) != 2 for after in unfold(self.WHERE, NOTHING, case)))

    def test_only_variables_ahead_are_known(self):
        row = (("lock", A, digest(V)),)
        self.check(("move", (), row, ((0, V), (1, A)), ()), (("move", (), row, ((0, V),), ()),))
        self.check(("move", (), row, ((0, W), (1, A), (1, V)), ()), ())
        self.check(("move", (), row, ((1, A), (1, V)), ()), ())
        self.check(("move", (), (V,), ((0, W), (1, digest(V))), ()), (("move", (), (V,), ((0, W),), ()),))
        self.check(("move", (), (V,), ((0, W), (0, digest(V))), ()), (("move", (), (V,), ((0, W), (0, V)), ()),))

    def test_the_first_that_is_not_settled(self):
        self.check(("move", (), (), ((0, V), (0, HI), (0, W), (0, HO)), ()), (("move", (), (), ((0, V), (0, W), (0, HO)), ()),))

    def test_composing(self):
        for term, below in (
            (pair(V, A), (V, A)), (pair(A, V), (A, V)), (("lock", A, B), (A, B)), (digest(A), (A,)), (("box", A, "bob"), (A,)),
            (("stamp", A, "bob"), (A, ("own", "bob"))), (("stamp", V, "mal"), (V, ("own", "mal"))),
            (("lock", V, KEY), (V, KEY)), (("box", digest(A), "mal"), (digest(A),)),
        ):
            demands = ((0, W), (1, term), (1, C))
            fresh = tuple((1, part) for part in below)
            self.check(("move", (0,), (HI,), demands, ()), (("move", (0,), (HI,), demands[:1] + fresh + demands[2:], ()),))
        for atom in (A, KEY, ("own", "ann")):
            self.check(("move", (0,), (HI,), ((1, atom),), ()), ())

    def test_parts_that_become_the_term(self):
        x, y = ("var", 0, "x"), ("var", 0, "y")
        first, second = ("box", pair(x, A), "bob"), ("lock", ("box", B, "bob"), KEY)
        row = (first, second)
        u = ("box", V, "bob")
        demands = ((0, x), (2, u))
        self.check(("move", (), row, demands, ((y, pair(V, V)),)), (
            ("move", (), row, ((0, x), (2, V)), ((y, pair(V, V)),)),
            ("move", (), row, ((0, x), (2, first)), ((y, pair(pair(x, A), pair(x, A))), (V, pair(x, A)))),
            ("move", (), row, ((0, x), (2, ("box", B, "bob"))), ((y, pair(B, B)), (V, B))),
        ))

    def test_a_unifier_is_applied_everywhere(self):
        x = ("var", 0, "x")
        row = (digest(pair(x, A)), pair(x, x), ("box", x, "mal"))
        demands = ((0, x), (1, digest(pair(B, V))), (2, pair(x, V)), (3, V))
        cases = unfold(self.WHERE, NOTHING, ("move", (1,), row, demands, ((W, pair(x, V)),)))
        self.assertEqual(cases[1], ("move", (1,), (digest(pair(B, A)), pair(B, B), ("box", B, "mal")),
                                    ((0, B), (1, digest(pair(B, A))), (2, pair(B, A)), (3, A)), ((x, B), (V, A), (W, pair(B, A)))))
        self.assertEqual(len(cases), 2)

    def test_letters_past_the_number_do_not_count(self):
        row = (HI, digest(A))
        self.check(("move", (), row, ((1, digest(V)),), ()), (("move", (), row, ((1, V),), ()),))
        self.check(("move", (), row, ((2, digest(V)),), ()),
                   (("move", (), row, ((2, V),), ()), ("move", (), row, ((2, digest(A)),), ((V, A),))))

    def test_the_term_itself_among_the_letters(self):
        # It is no part that becomes the term, but the key may become another part.
        x = ("var", 0, "x")
        row = (("lock", A, digest(pair(x, B))), digest(pair(C, B)))
        self.check(("move", (), row, ((0, x), (2, A)), ()), (
            ("move", (), (("lock", A, digest(pair(C, B))), row[1]), ((0, C), (2, A)), ((x, C),)),
        ))

    def test_variables_never_become_parts(self):
        x = ("var", 0, "x")
        self.check(("move", (), (digest(x),), ((0, x), (1, A)), ()), ())
        self.check(("move", (), (("lock", A, x), digest(B)), ((2, x), (2, A)), ()), (("move", (), (("lock", A, x), digest(B)), ((2, x),), ()),))
        self.check(("move", (), (("lock", A, ("box", x, "ann")), ("digest", x)), ((2, W), (2, A)), ()), ())

    def test_parts_of_keys(self):
        x = ("var", 0, "x")
        key = pair(digest(x), KEY)
        row = (("lock", A, key), ("lock", ("digest", B), KEY), ("digest", C))
        cases = unfold(self.WHERE, NOTHING, ("move", (), row, ((0, x), (3, A)), ()))
        self.assertEqual([after[4] for after in cases], [((x, B),), ((x, C),)])
        self.assertEqual(cases, plain_worlds.unfold(self.WHERE, NOTHING, ("move", (), row, ((0, x), (3, A)), ())))

    def test_keys_within_keys(self):
        x, y = ("var", 0, "x"), ("var", 0, "y")
        row = (("lock", A, ("lock", digest(pair(x, C)), ("box", pair(y, C), "ann"))), ("box", pair(B, C), "ann"),
               digest(pair(HI, C)), ("lock", C, digest(B)))
        case = ("move", (), row, ((0, x), (0, y), (4, A)), ())
        cases = unfold(self.WHERE, NOTHING, case)
        self.assertEqual(cases, plain_worlds.unfold(self.WHERE, NOTHING, case))
        self.assertEqual([after[4] for after in cases], [((x, HI),), ((y, x),), ((x, B),), ((y, B),), ((y, HI),)])

    def test_equal_cases_once(self):
        x = ("var", 0, "x")
        row = (digest(x), ("lock", A, digest(x)), digest(B), pair(HI, digest(B)))
        cases = unfold(self.WHERE, NOTHING, ("move", (), row, ((0, x), (4, ("lock", digest(B), HO))), ()))
        self.assertEqual(cases, (("move", (), row, ((0, x),), ()),))
        demands = ((0, x), (4, ("lock", A, digest(C))))
        cases = unfold(self.WHERE, NOTHING, ("move", (), row, demands, ()))
        self.assertEqual([after[4] for after in cases], [(), ((x, C),), ((x, B),)])
        self.assertEqual(cases, plain_worlds.unfold(self.WHERE, NOTHING, ("move", (), row, demands, ())))

    def test_the_three_ways_in_order(self):
        x = ("var", 0, "x")
        row = (("lock", A, pair(digest(x), B)), pair(digest(C), B), ("lock", ("own", "ann"), KEY), ("stamp", digest(A), "ann"))
        demands = ((0, x), (4, pair(V, B)))
        cases = unfold(self.WHERE, NOTHING, ("goal", (), row, demands, ()))
        self.assertEqual([(after[3], after[4]) for after in cases], [
            (((0, x), (4, V), (4, B)), ()),
            (((0, x), (4, pair(digest(x), B))), ((V, digest(x)),)),
            (((0, x), (4, pair(digest(C), B))), ((V, digest(C)),)),
            (((0, C), (4, pair(V, B))), ((x, C),)),
            (((0, A), (4, pair(V, B))), ((x, A),)),
        ])
        self.assertEqual(cases, plain_worlds.unfold(self.WHERE, NOTHING, ("goal", (), row, demands, ())))

    def test_example(self):
        n, x = ("mark", 0, "n"), ("var", 1, "x")
        letter = ("lock", n, KEY)
        case = ("move", (), (letter,), ((1, ("lock", x, KEY)),), ())
        self.check(case, (("move", (), (letter,), ((1, x), (1, KEY)), ()), ("move", (), (letter,), ((1, letter),), ((x, n),))))
        self.check(("move", (), (letter,), ((1, x), (1, KEY)), ()), ())
        self.check(("move", (), (letter,), ((1, letter),), ((x, n),)), (("move", (), (letter,), (), ((x, n),)),))


class SameAsPlain(unittest.TestCase):
    def test_trees(self):
        many = 0
        for where, claim in SMALL + LARGER:
            check_claim(where, claim)
            for case, after in tree_of(where, claim):
                self.assertEqual(plain_worlds.unfold(where, claim, case), after, case)
                many += 1
        self.assertGreater(many, 1500)

    def test_cases_by_chance(self):
        chance = random.Random(81)
        where = world((ECHO, SHOW), "echo ann", "show bob")
        several = 0
        for _ in range(5000):
            row = tuple(term_by_chance(chance, 3) for _ in range(chance.randrange(1, 4)))
            pieces = [part for part in plain.all_parts(row) if plain.inner(part)] or [digest(A)]
            numbers = sorted(chance.randrange(len(row) + 1) for _ in range(4))
            demands = tuple((many, chance.choice((V, W)) if chance.random() < 0.3 else loosened(chance, chance.choice(pieces))) for many in numbers)
            case = (chance.choice(("move", "goal")), (), row, demands, ((("var", 2, "z"), term_by_chance(chance, 2)),))
            expected = plain_worlds.unfold(where, NOTHING, case)
            several += expected is not None and len(expected) > 1
            self.assertEqual(unfold(where, NOTHING, case), expected, case)
        self.assertGreater(several, 300)


def term_by_chance(chance, depth):
    kind = chance.choice(("atom", "pair", "lock", "lock", "digest", "box", "stamp")) if depth else "atom"
    if kind == "atom":
        return chance.choice((A, B, HI, KEY, ("own", "ann"), V, W, U))
    inner = [term_by_chance(chance, depth - 1) for _ in range(plain.PLACES[kind])]
    return (kind, *inner, *([chance.choice(("ann", "mal"))] if kind in ("box", "stamp") else []))


def loosened(chance, term):
    """The term with some leaves changed."""
    if not plain.inner(term):
        return chance.choice((V, W, U, B, term, term))
    return tuple(loosened(chance, item) if isinstance(item, tuple) else item for item in term)


def weight(case):
    """What becomes smaller from each case of the stages move and goal to the next."""
    return (len(plain_worlds.case_variables(case)), sum(2 * size(term) - 1 for _, term in case[3] if term[0] != "var"))


class Fillings(unittest.TestCase):
    """Point [26]."""

    def test_cases_become_smaller(self):
        for where, claim in SMALL:
            for case, after in tree_of(where, claim):
                if case[0] != "state" and not is_settled(case):
                    for other in after:
                        self.assertLess(weight(other), weight(case))

    def test_the_form_of_cases(self):
        for where, claim in SMALL:
            for case, _ in tree_of(where, claim):
                stage, schedule, row, demands, bindings = case
                self.assertIn(stage, ("state", "move", "goal"))
                numbers = [many for many, _ in demands]
                self.assertEqual(numbers, sorted(numbers))
                self.assertTrue(all(0 <= many <= len(row) for many in numbers))
                replaced = [variable for variable, _ in bindings]
                self.assertEqual(replaced, sorted(replaced, key=plain.rank))
                self.assertFalse([variable for variable in replaced if variable in plain_worlds.case_variables(case)])
                for place, (many, term) in enumerate(demands):
                    ahead = plain.variables(*[term for _, term in demands[:place]])
                    if term[0] != "var":
                        self.assertTrue(all(variable in ahead for variable in plain.variables(*row[:many])))

    def test_no_filling_is_lost_and_none_is_won(self):
        chance = random.Random(82)
        small = [HI, ("mark", 0, "n"), ("mark", 1, "m"), ("host", "ann"), ("mark", 1, "n"), ("mark", 0, "k"), digest(HI)]
        kept = 0
        for where, claim in SMALL:
            for case, after in tree_of(where, claim):
                names = plain_worlds.case_variables(case)
                if case[0] == "state" or is_settled(case) or len(names) > 3:
                    continue
                pool = small + [part for part in plain.all_parts(case[2]) if not plain.variables(part)]
                choices = list(itertools.product(pool, repeat=len(names)))
                for values in chance.sample(choices, min(60, len(choices))):
                    filling = dict(zip(names, values))
                    if plain_worlds.is_filling(where.good, case, filling):
                        kept += 1
                        self.assertTrue(any(goes_on(where.good, case, other, filling) for other in after), (case, filling))
                for other in after:
                    self.check_back(chance, where.good, case, other, pool)
        self.assertGreater(kept, 1000)

    def check_back(self, chance, good, case, other, pool):
        names = plain_worlds.case_variables(other)
        for _ in range(10):
            filling = {variable: chance.choice(pool) for variable in names}
            if plain_worlds.is_filling(good, other, filling):
                # A variable that only the case has is free in all its fillings.
                full = {variable: chance.choice(pool) for variable in plain_worlds.case_variables(case)}
                full.update(filling)
                full.update({variable: plain.apply(filling.items(), term) for variable, term in other[4]})
                full = {variable: full[variable] for variable in plain_worlds.case_variables(case)}
                self.assertTrue(plain_worlds.is_filling(good, case, full), (case, other, full))

    def test_settled_cases_are_filled_with_road_marks(self):
        for where, claim in SMALL:
            for case, _ in tree_of(where, claim):
                if is_settled(case):
                    names = plain_worlds.case_variables(case)
                    filling = {variable: ("road", at) for at, variable in enumerate(names)}
                    self.assertTrue(plain_worlds.is_filling(where.good, case, filling))

    def test_runs_come_from_fillings(self):
        chance = random.Random(83)
        met = 0
        for where, claim in SMALL:
            cases = tree_of(where, claim)
            for _ in range(25):
                run = tidy(where, run_by_chance(chance, where, chance.randrange(8)))
                done, bindings, row = replay(where, run)
                schedule = schedule_of(run)
                fits = [case for case, _ in cases if case[:2] == ("state", schedule) and is_case_of(where.good, case, bindings, row)]
                stopped = [case for case, after in cases if after is None and schedule[:len(case[1])] == case[1]]
                self.assertTrue(fits or stopped, (run, claim))
                met += bool(fits)
                if broken(where, claim, run):
                    self.assertTrue(stopped, run)
        self.assertGreater(met, 100)

    def test_broken_cases_exactly_where_a_run_breaks_the_claim(self):
        for (where, claim), expected in zip(SMALL, (True, False, False, True, True, False, True, False, False, False, True, True)):
            self.assertIs(any(after is None for _, after in tree_of(where, claim)), expected, claim)


def goes_on(good, case, other, filling):
    """Whether a filling of a case, restricted, is one of a next case whose bindings it satisfies."""
    names = plain_worlds.case_variables(other)
    rest = {variable: filling[variable] for variable in names}
    for variable, term in other[4]:
        if variable in filling and plain.apply(rest.items(), term) != filling[variable]:
            return False
    return plain_worlds.is_filling(good, other, rest)


def is_case_of(good, case, bindings, row):
    """Whether a run with these bindings and this row comes from a filling of a case."""
    table = dict(bindings)
    names = plain_worlds.case_variables(case)
    if any(variable not in table for variable in names):
        return False
    filling = {variable: table[variable] for variable in names}
    if any(plain.apply(filling.items(), term) != table.get(variable) for variable, term in case[4]):
        return False
    filled = tuple(plain.apply(filling.items(), term) for term in case[2])
    return filled == row and plain_worlds.is_filling(good, case, filling)


def digests(term, many):
    return samples.deep(term, many, (samples.WRAPS[4],))


class Bounds(unittest.TestCase):
    """A next case has no term of a size of more than 2000 or of more than 200 levels."""

    WHERE = world((ECHO, SHOW), "echo ann", "show bob")
    def assert_fits(self, fits, where, claim, case):
        if fits:
            self.assertTrue(unfold(where, claim, case))
        else:
            with self.assertRaises(TooLarge):
                unfold(where, claim, case)

    def variants(self):
        """Triples (term, number of digests, whether the term in so many digests is small enough)."""
        for large in (of_size(C, 1990), digests(C, 189)):
            yield large, 10, True
            yield large, 11, False

    def test_rows(self):
        for large, more, fits in self.variants():
            for stage in ("move", "goal"):
                case = (stage, (), (digest(W), ("box", digests(W, more - 1), "bob")), ((0, W), (1, digest(large))), ())
                self.assert_fits(fits, self.WHERE, NOTHING, case)

    def test_demands(self):
        for large, more, fits in self.variants():
            for stage in ("move", "goal"):
                case = (stage, (), (digest(W),), ((0, W), (1, digest(large)), (1, digests(W, more))), ())
                self.assert_fits(fits, self.WHERE, NOTHING, case)

    def test_bindings(self):
        for large, more, fits in self.variants():
            case = ("move", (), (digest(W),), ((0, W), (1, digest(large))), ((U, digests(W, more)),))
            self.assert_fits(fits, self.WHERE, NOTHING, case)

    def test_keys(self):
        # By the third way, the key becomes the other letter.
        for large, more, fits in self.variants():
            row = (("lock", A, digest(pair(W, B))), digest(pair(large, B)))
            case = ("move", (), row, ((0, W), (2, A), (2, digests(W, more))), ())
            self.assert_fits(fits, self.WHERE, NOTHING, case)

    def test_unify(self):
        # What is unified becomes too large within the unifier already.
        u = pair(pair(W, W), pair(of_size(C, 1000), B))
        case = ("move", (), (pair(V, pair(W, B)),), ((0, V), (0, W), (1, u)), ())
        self.assert_fits(False, self.WHERE, NOTHING, case)
        u = pair(pair(W, W), pair(of_size(C, 300), B))
        self.assert_fits(True, self.WHERE, NOTHING, ("move", (), (pair(V, pair(W, B)),), ((0, V), (0, W), (1, u)), ()))

    def test_no_unifier_no_error(self):
        u = pair(pair(W, W), pair(of_size(C, 1000), C))
        case = ("move", (), (pair(V, pair(W, B)),), ((0, V), (0, W), (1, u)), ())
        self.assertEqual(len(unfold(self.WHERE, NOTHING, case)), 1)

    def test_letters_that_are_sent(self):
        where = world((role("r", "take (var x)", "send (digest (pair (var x) (var x)))", parameters=("A",)),), "r ann")
        x = ("var", 0, "x")
        claim = ("each", "r", (), "r", 0, ())
        for count, fits in ((999, True), (1000, False)):
            self.assert_fits(fits, where, claim, ("state", (0,), (), (), ((x, of_size(HI, count)),)))
        for levels, fits in ((198, True), (199, False)):
            self.assert_fits(fits, where, claim, ("state", (0,), (), (), ((x, digests(A, levels - 1)),)))

    def test_letters_that_are_taken(self):
        where = world((role("r", "take (var x)", "take (digest (pair (var x) (var x)))", parameters=("A",)),), "r ann")
        x = ("var", 0, "x")
        claim = ("each", "r", (), "r", 0, ())
        for count, fits in ((999, True), (1000, False)):
            self.assert_fits(fits, where, claim, ("state", (0,), (), (), ((x, of_size(HI, count)),)))

    def test_steps_that_the_schedule_counts(self):
        # The row and the demands of these cases do not have the letters of the steps; the steps count all the same.
        where = world((role("r", "take (var x)", "send (digest (var x))", "send (mark n)", "send (pair (var x) (var x))", parameters=("A",)),), "r ann")
        x = ("var", 0, "x")
        claim = ("each", "r", (), "r", 0, ())
        for count, fits in ((1999, True), (2000, False)):
            bindings = ((x, of_size(HI, count)),)
            self.assert_fits(fits, where, claim, ("state", (0, 0), (), (), bindings))
            for stage in ("move", "goal"):
                self.assert_fits(fits, where, claim, (stage, (0, 0), (), ((0, HI),), bindings))
                self.assert_fits(True, where, claim, (stage, (0,), (), ((0, HI),), bindings))
                self.assert_fits(True, where, claim, (stage, (), (), ((0, HI),), bindings))
            self.assert_fits(fits, where, claim, ("move", (0, 0), (), (), bindings))
            self.assert_fits(True, where, claim, ("move", (0,), (), (), bindings))
        for levels, fits in ((199, True), (200, False)):
            self.assert_fits(fits, where, claim, ("move", (0, 0), (), (), ((x, digests(A, levels - 1)),)))
        for count, fits in ((999, True), (1000, False)):
            self.assert_fits(fits, where, claim, ("move", (0, 0, 0, 0), (), (), ((x, of_size(HI, count)),)))
            self.assert_fits(True, where, claim, ("move", (0, 0, 0), (), (), ((x, of_size(HI, count)),)))

    def test_terms_of_hidden_claims(self):
        where = world((ECHO, SHOW), "echo ann", "show bob", "echo ann")
        x, z = ("var", 0, "x"), ("var", 2, "x")
        for count, fits in ((1999, True), (2000, False)):
            bindings = ((x, of_size(HI, count)), (z, of_size(HI, count)))
            claim = ("hidden", 0, ("box", X, "A"))
            self.assert_fits(fits, where, claim, ("move", (0,), (), (), bindings))
            self.assert_fits(fits, where, claim, ("state", (0,), (), (), bindings[:1]))
            # A variable that is not met does not count, nor does that of another session.
            self.assert_fits(True, where, claim, ("move", (), (), (), bindings))
            self.assert_fits(True, where, claim, ("move", (1,), (), (), bindings))
            self.assert_fits(True, where, claim, ("move", (2,), (), (), bindings))
            self.assert_fits(fits, where, ("hidden", 2, digest(X)), ("move", (2,), (), (), bindings))

    def test_a_variable_is_met_by_the_next_step(self):
        where = world((role("r", "take (var x)", "take (var y)", parameters=("A",)),), "r ann")
        x = ("var", 0, "x")
        for count, fits in ((1998, True), (1999, False)):
            claim = ("hidden", 0, pair(X, Y))
            self.assert_fits(fits, where, claim, ("state", (0,), (), (), ((x, of_size(HI, count)),)))
            self.assert_fits(True, where, claim, ("move", (0,), (), (), ((x, of_size(HI, count)),)))

    def test_terms_of_agrees(self):
        where = world((ECHO, SHOW), "echo ann", "show bob", "echo ann")
        x, z = ("var", 0, "x"), ("var", 2, "x")
        large, small = of_size(HI, 2000), of_size(HI, 1999)
        for claim, bindings, schedule, fits in (
            (("agrees", 0, (("box", X, "A"),), "show", 0, (HI,)), ((x, small),), (0,), True),
            (("agrees", 0, (("box", X, "A"),), "show", 0, (HI,)), ((x, large),), (0,), False),
            (("agrees", 0, (("box", X, "A"),), "show", 0, (HI,)), ((x, large),), (1,), True),
            (("agrees", 0, (("box", X, "A"),), "show", 0, (HI,)), ((x, small), (z, large)), (0, 2), True),
            (("agrees", 1, (HI,), "echo", 1, (("box", X, "A"),)), ((z, small),), (2,), True),
            (("agrees", 1, (HI,), "echo", 1, (("box", X, "A"),)), ((z, large),), (2,), False),
            (("agrees", 1, (HI,), "echo", 1, (("box", X, "A"),)), ((x, large),), (0,), False),
            (("agrees", 1, (HI,), "echo", 1, (("box", X, "A"),)), ((x, large), (z, large)), (1,), True),
            # The session itself counts for the other terms if it has the role, though it is no partner of its own.
            (("agrees", 0, (HI,), "echo", 1, (("box", X, "A"),)), ((x, large),), (0,), False),
            (("agrees", 0, (HI,), "echo", 1, (("box", X, "A"),)), ((x, small),), (0,), True),
        ):
            check_claim(where, claim)
            self.assert_fits(fits, where, claim, ("move", schedule, (), (), bindings))

    def test_terms_of_each(self):
        where = world((ECHO, SHOW, role("other", "take (var x)", parameters=("A",))), "echo ann", "show bob", "echo ann", "other ann")
        x, z, o = ("var", 0, "x"), ("var", 2, "x"), ("var", 3, "x")
        large, small = of_size(HI, 2000), of_size(HI, 1999)
        box = ("box", X, "A")
        for claim, bindings, schedule, fits in (
            (("each", "echo", (box,), "show", 0, (HI,)), ((x, small), (z, small), (o, large)), (0, 2, 3), True),
            (("each", "echo", (box,), "show", 0, (HI,)), ((x, large),), (0,), False),
            (("each", "echo", (box,), "show", 0, (HI,)), ((z, large),), (2,), False),
            (("each", "echo", (box,), "show", 0, (HI,)), ((x, large), (z, large)), (1,), True),
            (("each", "show", (HI,), "echo", 1, (box,)), ((x, large),), (0,), False),
            (("each", "show", (HI,), "echo", 1, (box,)), ((z, large),), (2,), False),
            (("each", "show", (HI,), "echo", 1, (box,)), ((z, small),), (2,), True),
            (("each", "show", (HI,), "echo", 1, (box,)), ((o, large),), (3,), True),
            (("each", "echo", (HI, box), "other", 1, (HI, X)), ((x, large),), (0,), False),
            (("each", "echo", (HI, X), "other", 1, (HI, box)), ((x, large),), (0,), True),
        ):
            check_claim(where, claim)
            self.assert_fits(fits, where, claim, ("move", schedule, (), (), bindings))

    def test_levels_of_claims(self):
        where = world((ECHO,), "echo ann")
        x = ("var", 0, "x")
        for levels, fits in ((198, True), (199, False)):
            claim = ("hidden", 0, digest(pair(X, X)))
            self.assert_fits(fits, where, claim, ("move", (0,), (), (), ((x, digests(A, levels - 1)),)))

    def test_a_demand_that_drops_out(self):
        where = world((ECHO,), "echo ann")
        x = ("var", 0, "x")
        for count, fits in ((1999, True), (2000, False)):
            case = ("goal", (0,), (), ((0, HI), (0, B)), ((x, of_size(HI, count)),))
            self.assert_fits(fits, where, ("hidden", 0, digest(X)), case)

    def test_without_next_cases(self):
        where = world((ECHO,), "echo ann")
        x = ("var", 0, "x")
        large = ((x, of_size(HI, 2000)),)
        claim = ("hidden", 0, digest(X))
        self.assertIsNone(unfold(where, claim, ("goal", (0,), (), (), large)))
        self.assertIsNone(unfold(where, claim, ("state", (0,), (), ((0, HI),), large)))
        self.assertEqual(unfold(where, claim, ("move", (0,), (), ((0, B),), large)), ())
        self.assertIsNone(unfold(where, ("agrees", 0, (digest(X),), "echo", 2, (digest(X),)), ("state", (0, 0), (), (), large)))

    def test_large_passed_cases(self):
        letter = of_size(B, 2000)
        where = world((ECHO, SHOW), "echo ann", "show bob")
        case = ("move", (), (letter,), ((0, V), (1, letter)), ((U, of_size(V, 2000)),))
        self.assertEqual(unfold(where, NOTHING, case), (("move", (), (letter,), ((0, V),), case[4]),))
        deep = digests(B, 199)
        case = ("move", (), (deep,), ((0, V), (1, deep)), ((U, digests(V, 199)),))
        self.assertEqual(unfold(where, NOTHING, case), (("move", (), (deep,), ((0, V),), case[4]),))
        case = ("move", (), (deep,), ((0, V), (1, digests(C, 199))), ())
        self.assertEqual(unfold(where, NOTHING, case), (("move", (), (deep,), ((0, V), (1, digests(C, 198))), ()),))


class General(unittest.TestCase):
    def test_parameter_names(self):
        where, claim = SMALL[0]
        self.assertEqual(unfold(world=where, claim=claim, case=START), unfold(where, claim, start_case()))

    def test_equal_calls(self):
        for where, claim in SMALL[:3]:
            self.assertEqual(tree_of(where, claim), tree_of(where, claim))


if __name__ == "__main__":
    unittest.main()
