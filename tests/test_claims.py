"""Points [21], [22] and [23]: claims, and the runs that break them."""

import random
import unittest

from muffline.claims import broken, check_claim, crowd, leak
from muffline.errors import BadClaim, BadMove, TooLarge
from muffline.notation import read_role_term as read
from muffline.recipes import cook, recipe_size
from muffline.runs import replay
from tests import plain_worlds, samples
from tests.test_runs import ATTACK, ATTACKED, CROWD, FREE, FULL, HI, HO, MAL, PAIR, VALUES_OF_ANY_FORM, letter, of_size, run_by_chance
from tests.worlds import ANSWER, ECHO, GET, GIVE, IDLE, KEYS, SHOW, role, world

N, M, X, Y = ("mark", "n"), ("mark", "m"), ("var", "x"), ("var", "y")
HOST_A, HOST_B = ("host", "A"), ("host", "B")
MIXED = role("mixed", "send (pair (own A) (lock (mark n) (both A zed)))", "take (lock (var x) (both B A))",
             "send (box (host carl) dora)", "take (stamp (var y) eve)")
OTHER = role("other", "take (var v)", "send (mark k)", "take (box (var w) C)", parameters=("C",))
WORLD = world((MIXED, OTHER, IDLE), "other ann", "mixed ann bob", "mixed mal bob")


def is_good(claim, where=WORLD):
    try:
        return check_claim(where, claim) is None
    except BadClaim:
        return False


class GoodClaims(unittest.TestCase):
    def test_hidden(self):
        for text in ("(mark n)", "(var x)", "(var y)", "(host A)", "(host B)", "(host carl)", "(own A)", "(both A B)", "(both B A)",
                     "(both A zed)", "(both zed A)", "(word anything)", "(pair (mark n) (var x))", "(lock (var y) (both B A))",
                     "(digest (own A))", "(box (mark n) A)", "(box (mark n) B)", "(box (mark n) dora)", "(box (mark n) carl)",
                     "(stamp (mark n) B)", "(stamp (word hi) eve)", "(stamp (var x) zed)", "(host eve)", "(host zed)"):
            self.assertIs(is_good(("hidden", 1, read(text))), True, text)
        self.assertIs(is_good(("hidden", 2, N)), True)
        self.assertIs(is_good(("hidden", 0, ("var", "w"))), True)
        self.assertIs(is_good(("hidden", 0, ("host", "C"))), True)

    def test_agrees(self):
        for claim in (("agrees", 1, (), "other", 0, ()), ("agrees", 1, (), "other", 3, ()), ("agrees", 1, (), "mixed", 0, ()),
                      ("agrees", 0, (("var", "v"),), "mixed", 2, (X,)), ("agrees", 1, (X, N), "other", 1, (("var", "v"), ("mark", "k"))),
                      ("agrees", 1, (X,), "other", 0, (("mark", "k"),)), ("agrees", 0, (HI, HI), "idle", 0, (HO, ("host", "A")))):
            self.assertIs(is_good(claim), True, claim)

    def test_each(self):
        for claim in (("each", "mixed", (), "other", 0, ()), ("each", "mixed", (), "mixed", 4, ()), ("each", "idle", (), "idle", 0, ()),
                      ("each", "mixed", (X, ("both", "B", "A")), "mixed", 2, (X, ("both", "A", "B"))),
                      ("each", "other", (("var", "w"),), "mixed", 4, (Y,))):
            self.assertIs(is_good(claim), True, claim)

    def test_worlds_without_sessions(self):
        where = world((MIXED, OTHER))
        self.assertIs(is_good(("hidden", 0, N), where), False)
        self.assertIs(is_good(("agrees", 0, (), "other", 0, ()), where), False)
        self.assertIs(is_good(("each", "mixed", (X,), "other", 1, (("var", "v"),)), where), True)
        self.assertIs(is_good(("each", "mixed", (), "other", 0, ()), world(())), False)

    def test_bounds_of_terms(self):
        wide = N
        for _ in range(3):
            wide = ("pair", wide, wide)
        term = ("pair", wide, ("pair", wide[1], ("pair", wide[1][1], ("digest", N))))
        deep = samples.deep(N, 7, (samples.WRAPS[4],))
        for item, expected in ((term, True), (("digest", term), False), (("pair", term[1], ("digest", term[2])), False),
                               (deep, True), (("digest", deep), False), (samples.deep(N, 199, (samples.WRAPS[4],)), False)):
            self.assertIs(is_good(("hidden", 1, item)), expected)
            self.assertIs(is_good(("each", "mixed", (HI, item), "other", 0, (HI, HI))), expected)
            self.assertIs(is_good(("agrees", 0, (HI,), "mixed", 0, (item,))), expected)


class WrongClaims(unittest.TestCase):
    def test_kinds_and_numbers_of_items(self):
        agrees, each = ("agrees", 1, (), "other", 0, ()), ("each", "mixed", (), "other", 0, ())
        self.assertTrue(is_good(agrees) and is_good(each) and is_good(("hidden", 1, N)))
        for claim in (None, 0, "", "hidden", (), ("hidden",), ("hidden", 1), ("hidden", 1, N, N), ("Hidden", 1, N), ("", 1, N), (None, 1, N),
                      (1, N), (("hidden", 1, N),), ("shown", 1, N), agrees[:5], agrees + ((),), each[:5], each + ((),), each[:3], agrees[:3],
                      ("hidden",) + agrees[1:], ("agrees", 1, N), ("each", "mixed", N), ("agree",) + agrees[1:], (0,) + each[1:],
                      (("each",),) + each[1:], ("agrees",) + each[1:], ("each",) + agrees[1:]):
            self.assertIs(is_good(claim), False, claim)

    def test_sessions(self):
        for session in (-1, 3, 4, 99, None, "", "1", (), (1,), "mixed"):
            self.assertIs(is_good(("hidden", session, HI)), False)
            self.assertIs(is_good(("agrees", session, (), "other", 0, ())), False)
        for session in (0, 1, 2):
            self.assertIs(is_good(("hidden", session, HI)), True)
            self.assertIs(is_good(("agrees", session, (), "other", 0, ())), True)

    def test_roles(self):
        for name in ("mixe", "mixedd", "", None, 0, (), ("mixed",), "A", MIXED):
            self.assertIs(is_good(("each", name, (), "other", 0, ())), False)
            self.assertIs(is_good(("each", "other", (), name, 0, ())), False)
            self.assertIs(is_good(("agrees", 0, (), name, 0, ())), False)

    def test_numbers_of_steps(self):
        for name, most in (("mixed", 4), ("other", 3), ("idle", 0)):
            for steps in range(-2, 8):
                self.assertIs(is_good(("each", "mixed", (), name, steps, ())), 0 <= steps <= most)
                self.assertIs(is_good(("agrees", 0, (), name, steps, ())), 0 <= steps <= most)
        for steps in (None, "0", "", (), (0,)):
            self.assertIs(is_good(("each", "mixed", (), "other", steps, ())), False)

    def test_lengths(self):
        for one, other in (((), (HI,)), ((HI,), ()), ((HI, HI), (HI,)), ((HI,), (HI, HI)), (None, ()), ((), None), ("", ""), ("", ()),
                           ((), ""), (0, 0), (None, None), ("ab", (HI, HI)), ((HI, HI), "ab")):
            self.assertIs(is_good(("each", "mixed", one, "other", 0, other)), False)
            self.assertIs(is_good(("agrees", 1, one, "other", 0, other)), False)

    def assert_wrong(self, term):
        """The term is wrong for the role mixed, in all places."""
        self.assertIs(is_good(("hidden", 1, term)), False, term)
        self.assertIs(is_good(("hidden", 1, ("pair", HI, ("digest", term)))), False, term)
        self.assertIs(is_good(("agrees", 1, (term,), "other", 3, (HI,))), False, term)
        self.assertIs(is_good(("agrees", 0, (HI, HI), "mixed", 4, (HI, term))), False, term)
        self.assertIs(is_good(("each", "mixed", (HI, term), "other", 3, (HI, HI))), False, term)
        self.assertIs(is_good(("each", "other", (HI,), "mixed", 4, (term,))), False, term)

    def test_no_role_terms(self):
        for term in (None, 0, "", "n", (), (N,), ("mark", 0, "n"), ("var", 1, "x"), ("road", 0), ("mark", "N"), ("digest",), ("letter", 0),
                     ("pair", N), ("box", N, HOST_A), ("host", "aB"), ("both", "A"), ("word", "A"), ("own", "A", "B")):
            self.assert_wrong(term)

    def test_capitals(self):
        for term in (("host", "C"), ("own", "C"), ("both", "A", "C"), ("box", N, "C"), ("stamp", HI, "C")):
            self.assert_wrong(term)
        self.assertIs(is_good(("hidden", 0, ("host", "A"))), False)

    def test_marks(self):
        self.assert_wrong(("mark", "m"))
        self.assert_wrong(("mark", "k"))
        self.assertIs(is_good(("hidden", 0, ("mark", "k"))), True)
        self.assertIs(is_good(("hidden", 0, N)), False)

    def test_private_halves(self):
        self.assert_wrong(("own", "B"))
        self.assert_wrong(("own", "zed"))
        # A box or a stamp of the host is not enough.
        self.assertIs(is_good(("hidden", 0, ("own", "C"))), False)
        self.assertIs(is_good(("hidden", 0, ("own", "B")), world((ANSWER,), "answer bob ann")), False)
        where = world((role("s", "send (stamp (mark n) A)", "take (box (var x) A)", parameters=("A",)),), "s ann")
        self.assertIs(is_good(("hidden", 0, ("own", "A")), where), False)

    def test_keys_of_two_hosts(self):
        for names in ("A A", "B B", "zed zed", "B zed", "A carl", "carl A", "A eve"):
            self.assert_wrong(read("(both " + names + ")"))
        where = world((role("s", "send (digest (both b A))", parameters=("A",)),), "s ann")
        for names in ("b A", "A b"):
            self.assertIs(is_good(("hidden", 0, read("(both " + names + ")")), where), True)
        self.assertIs(is_good(("hidden", 0, read("(both A A)")), where), False)

    def test_hosts_by_name(self):
        for name in ("ann", "bob", "mal", "a", "n", "x", "hi"):
            self.assert_wrong(("host", name))
            self.assert_wrong(("box", N, name))
            self.assert_wrong(("stamp", HI, name))
        # Where a name stands for a host in the steps makes no difference, but words and marks are no hosts.
        for name in ("zed", "carl", "dora", "eve"):
            for term in (("host", name), ("box", HI, name), ("stamp", HI, name)):
                self.assertIs(is_good(("hidden", 1, term)), True)
                self.assertIs(is_good(("hidden", 0, term)), False)
        where = world((role("s", "send (pair (word w) (mark m))", "take (var v)", parameters=("A",)),), "s ann")
        for name in ("w", "m", "v", "s", "ann"):
            self.assertIs(is_good(("hidden", 0, ("host", name)), where), False)

    def test_variables(self):
        self.assert_wrong(("var", "z"))
        self.assert_wrong(("var", "v"))
        self.assert_wrong(("var", "n"))
        for steps, expected in ((0, False), (1, False), (2, True), (3, True), (4, True)):
            self.assertIs(is_good(("agrees", 0, (HI,), "mixed", steps, (X,))), expected)
            self.assertIs(is_good(("each", "other", (HI,), "mixed", steps, (("digest", X),))), expected)
        for steps, expected in ((2, False), (3, False), (4, True)):
            self.assertIs(is_good(("each", "other", (HI,), "mixed", steps, (Y,))), expected)
        self.assertIs(is_good(("each", "mixed", (Y,), "other", 0, (HI,))), True)

    def test_marks_of_later_steps(self):
        self.assertIs(is_good(("each", "other", (HI,), "mixed", 0, (N,))), True)

    def test_values_of_any_form(self):
        deep = ()
        for _ in range(198):
            deep = (deep,)
        for value in VALUES_OF_ANY_FORM + (deep, (HI,) * 1000, (0,) * 5000):
            self.assertIs(is_good(value), False)
            self.assertIs(is_good((value,) * 6), False)
            self.assertIs(is_good(("hidden", value, N)), False)
            self.assertIs(is_good(("hidden", 1, value)), value == HI)
            for at in range(1, 6):
                for claim in (("agrees", 1, (X,), "other", 1, (("var", "v"),)), ("each", "mixed", (X,), "other", 1, (("var", "v"),))):
                    spoilt = claim[:at] + (value,) + claim[at + 1:]
                    self.assertIs(is_good(spoilt), False)


class Hidden(unittest.TestCase):
    def check(self, where, claim, run, expected):
        """The least recipe that breaks the claim, or None."""
        check_claim(where, claim)
        self.assertIs(broken(where, claim, run), expected is not None)
        self.assertIs(plain_worlds.broken(where, claim, run), expected is not None)
        self.assertEqual(leak(where, claim, run), expected)
        self.assertIsNone(crowd(where, claim, run))

    def test_a_secret_that_is_kept(self):
        for many in range(7):
            self.check(PAIR, ("hidden", 0, N), FULL[:many], None)
            self.check(PAIR, ("hidden", 1, M), FULL[:many], None)
            self.check(PAIR, ("hidden", 0, X), FULL[:many], None)

    def test_a_secret_that_is_lost(self):
        for many in range(7):
            found = ("unbox", letter(2), MAL, "mal") if many >= 5 else None
            self.check(ATTACKED, ("hidden", 1, M), ATTACK[:many], found)
            found = ("left", ("unbox", letter(0), MAL, "mal")) if many >= 1 else None
            self.check(ATTACKED, ("hidden", 0, N), ATTACK[:many], found)

    def test_variables_that_are_not_met(self):
        where = world((ECHO, SHOW), "echo ann", "show bob")
        self.check(where, ("hidden", 0, X), (), None)
        self.check(where, ("hidden", 0, X), ((1, None),), None)
        self.check(where, ("hidden", 0, X), ((1, None), (0, letter(0))), letter(0))
        self.check(where, ("hidden", 0, X), ((1, None), (0, FREE)), FREE)
        self.check(where, ("hidden", 0, ("pair", X, HI)), ((0, FREE),), ("pair", FREE, FREE))
        two = world((role("r", "take (var x)", "take (var y)", parameters=("A",)),), "r ann")
        for term in (("pair", X, Y), Y):
            self.check(two, ("hidden", 0, term), ((0, FREE),), None)
            self.assertIs(broken(two, ("hidden", 0, term), ((0, FREE), (0, FREE))), True)
        self.check(two, ("hidden", 0, X), ((0, FREE),), FREE)

    def test_variables_of_the_session_alone(self):
        where = world((ECHO,), "echo ann", "echo bob")
        self.check(where, ("hidden", 0, X), ((1, FREE), (1, None)), None)
        self.check(where, ("hidden", 1, X), ((1, FREE), (1, None)), FREE)

    def test_a_variable_in_a_send_step_is_met_by_its_take(self):
        where = world((ECHO,), "echo ann")
        self.check(where, ("hidden", 0, ("digest", X)), ((0, ("pair", FREE, FREE)),), ("digest", ("pair", FREE, FREE)))
        self.check(where, ("hidden", 0, ("digest", X)), ((0, ("pair", FREE, FREE)), (0, None)), letter(0))

    def test_terms_that_are_never_hidden(self):
        self.check(PAIR, ("hidden", 0, HOST_A), (), ("free", ("host", "ann")))
        self.check(PAIR, ("hidden", 0, HI), (), FREE)
        self.check(PAIR, ("hidden", 1, ("box", ("host", "B"), "A")), (), ("box", ("free", ("host", "bob")), "ann"))

    def test_keys_and_halves(self):
        where = world((role("k", "send (digest (pair (own A) (both A B)))"),), "k ann bob", "k mal bob", "k ann mal")
        for claim, expected in (((0, ("own", "A")), None), ((1, ("own", "A")), MAL), ((0, ("both", "B", "A")), None),
                                ((1, ("both", "B", "A")), ("free", ("both", "bob", "mal"))),
                                ((2, ("both", "A", "B")), ("free", ("both", "ann", "mal")))):
            self.check(where, ("hidden", *claim), (), expected)

    def test_it_may_hold_again(self):
        where = world((role("r", "take (var x)", "take (pair (var x) (var y))", parameters=("A",)),), "r ann")
        self.check(where, ("hidden", 0, X), (), None)
        self.check(where, ("hidden", 0, X), ((0, FREE),), FREE)

    def test_least_recipes(self):
        where = world((KEYS,), "keys ann bob", "keys ann mal")
        run = ((0, None), (1, None), (1, None))
        self.check(where, ("hidden", 1, N), run, ("unlock", letter(1), ("unlock", letter(2), ("free", ("both", "ann", "mal")))))
        self.check(where, ("hidden", 0, N), run, None)


class TooLargeFromLeak(unittest.TestCase):
    def test_size(self):
        where = world((role("r", "take (var x)", parameters=("A",)),), "r ann")
        for more, term in ((998, ("pair", X, X)), (1999, ("digest", X))):
            run = ((0, of_size(FREE, more)),)
            claim = ("hidden", 0, term)
            self.assertEqual(recipe_size(leak(where, claim, run)), 1 + (2 * more if term[0] == "pair" else more))
        for more, term in ((1000, ("pair", X, X)), (2000, ("digest", X)), (2000, ("pair", X, X))):
            run = ((0, of_size(FREE, more)),)
            claim = ("hidden", 0, term)
            with self.assertRaises(TooLarge):
                leak(where, claim, run)
            self.assertIs(broken(where, claim, run), True)
            self.assertIsNone(crowd(where, claim, run))

    def test_levels(self):
        where = world((role("r", "send (word hi)", "take (var x)", parameters=("A",)),), "r ann")
        claim = ("hidden", 0, X)
        deep = samples.deep(letter(0), 199, (samples.WRAPS[4],))
        self.assertIs(broken(where, claim, ((0, None), (0, deep))), True)
        with self.assertRaises(TooLarge):
            leak(where, claim, ((0, None), (0, deep)))
        self.assertEqual(leak(where, claim, ((0, None), (0, deep[1]))), samples.deep(FREE, 198, (samples.WRAPS[4],)))

    def test_bad_moves_come_first(self):
        where = world((role("r", "take (var x)", "send (word hi)", parameters=("A",)),), "r ann")
        run = ((0, of_size(FREE, 2000)),)
        claim = ("hidden", 0, ("pair", X, X))
        for more in ((0, FREE), (1, None), (-1, None)):
            with self.assertRaises(BadMove) as caught:
                leak(where, claim, run + (more,))
            self.assertEqual(caught.exception.at, 1)

    def test_large_letters(self):
        where = world((role("r", "take (var x)", "send (pair (var x) (var x))", parameters=("A",)),), "r ann")
        for function in (broken, crowd, leak):
            for claim in (("hidden", 0, X), ("agrees", 0, (), "r", 0, ()), ("each", "r", (), "r", 0, ())):
                with self.assertRaises(TooLarge):
                    function(where, claim, ((0, of_size(FREE, 1000)), (0, None)))
                with self.assertRaises(BadMove):
                    function(where, claim, ((0, of_size(FREE, 1000)), (0, FREE)))


class Agrees(unittest.TestCase):
    def check(self, where, claim, run, expected):
        check_claim(where, claim)
        self.assertIs(broken(where, claim, run), expected, (claim, run))
        self.assertIs(plain_worlds.broken(where, claim, run), expected)
        self.assertIsNone(leak(where, claim, run))
        self.assertIsNone(crowd(where, claim, run))

    def test_sessions_that_have_not_ended(self):
        claim = ("agrees", 1, (HOST_A, HOST_B, Y, M), "ask", 3, (HOST_A, HOST_B, N, X))
        for many in range(7):
            self.check(PAIR, claim, FULL[:many], False)
            self.check(ATTACKED, claim, ATTACK[:many], many == 6)

    def test_the_terms(self):
        for one, other, expected in ((HOST_A, HOST_A, False), (HOST_B, HOST_B, True), (Y, N, False), (M, X, False), (M, N, True), (HI, HI, False),
                                     (HI, HO, True), (("pair", Y, M), ("pair", N, X), False), (("pair", Y, M), ("pair", X, N), True)):
            self.check(ATTACKED, ("agrees", 1, (one,), "ask", 3, (other,)), ATTACK, expected)
        self.check(ATTACKED, ("agrees", 1, (HOST_A, HOST_B), "ask", 3, (HOST_A, HOST_B)), ATTACK, True)
        self.check(ATTACKED, ("agrees", 1, (HOST_A, HOST_A), "ask", 3, (HOST_A, HOST_A)), ATTACK, False)

    def test_the_order_in_both_is_free(self):
        where = world((GIVE, GET), "give ann bob", "get bob ann")
        run = ((0, None), (1, letter(0)))
        for one in ("(both A B)", "(both B A)"):
            for other in ("(both A B)", "(both B A)"):
                self.check(where, ("agrees", 1, (read(one),), "give", 1, (read(other),)), run, False)

    def test_the_number_of_steps(self):
        for steps in range(4):
            claim = ("agrees", 0, (HOST_A,), "answer", steps, (HOST_A,))
            for run in (FULL[:5], FULL):
                self.check(PAIR, claim, run, steps > (3 if run == FULL else 2))
        where = world((SHOW, ECHO), "show ann", "echo bob")
        for steps in range(3):
            for many in range(3):
                run = ((0, None),) + ((1, FREE), (1, None))[:many]
                self.check(where, ("agrees", 0, (), "echo", steps, ()), run, many < steps)

    def test_another_role(self):
        where = world((SHOW, ECHO, IDLE), "show ann", "echo bob")
        self.check(where, ("agrees", 0, (), "idle", 0, ()), ((0, None),), True)
        self.check(where, ("agrees", 0, (), "echo", 0, ()), ((0, None),), False)

    def test_a_session_is_never_its_own_partner(self):
        where = world((SHOW,), "show ann", "show ann")
        self.check(where, ("agrees", 0, (HOST_A,), "show", 1, (HOST_A,)), ((0, None),), True)
        self.check(where, ("agrees", 0, (HOST_A,), "show", 1, (HOST_A,)), ((0, None), (1, None)), False)
        self.check(where, ("agrees", 0, (N,), "show", 1, (N,)), ((0, None), (1, None)), True)
        self.check(where, ("agrees", 0, (HOST_A,), "show", 0, (HOST_A,)), ((0, None),), False)
        self.check(world((SHOW,), "show ann"), ("agrees", 0, (), "show", 0, ()), ((0, None),), True)

    def test_sessions_without_steps(self):
        where = world((IDLE, SHOW), "idle ann", "show ann")
        self.check(where, ("agrees", 0, (), "show", 1, ()), (), True)
        self.check(where, ("agrees", 0, (), "show", 1, ()), ((1, None),), False)
        self.check(where, ("agrees", 0, (), "show", 0, ()), (), False)
        self.check(where, ("agrees", 1, (HOST_A,), "idle", 0, (HOST_A,)), ((1, None),), False)
        self.check(world((IDLE,), "idle ann"), ("agrees", 0, (), "idle", 0, ()), (), True)
        self.check(world((IDLE,), "idle ann", "idle bob"), ("agrees", 0, (), "idle", 0, ()), (), False)
        self.check(world((IDLE,), "idle ann", "idle bob"), ("agrees", 0, (HOST_A,), "idle", 0, (HOST_A,)), (), True)

    def test_it_may_hold_again(self):
        where = world((SHOW, ECHO), "show ann", "echo bob")
        claim = ("agrees", 0, (), "echo", 1, ())
        self.check(where, claim, (), False)
        self.check(where, claim, ((0, None),), True)
        self.check(where, claim, ((0, None), (1, FREE)), False)

    def test_partners_that_go_on(self):
        where = world((SHOW, ECHO), "show ann", "echo bob", "echo ann")
        claim = ("agrees", 0, (N,), "echo", 1, (X,))
        self.check(where, claim, ((0, None), (1, FREE)), True)
        self.check(where, claim, ((0, None), (1, FREE), (2, ("digest", letter(0)))), True)
        self.check(where, claim, ((0, None), (1, FREE), (2, letter(0))), False)


class Each(unittest.TestCase):
    def check(self, where, claim, run, expected):
        check_claim(where, claim)
        self.assertEqual(crowd(where, claim, run), expected, (claim, run))
        self.assertIs(broken(where, claim, run), expected is not None)
        self.assertIs(plain_worlds.broken(where, claim, run), expected is not None)
        self.assertIsNone(leak(where, claim, run))

    def test_one_letter_taken_twice(self):
        where = world((GIVE, GET), "get bob ann", "give ann bob", "get bob ann", "get bob ann")
        claim = ("each", "get", (X, HOST_A), "give", 1, (N, HOST_A))
        run = ((1, None), (3, letter(0)), (0, letter(0)), (2, letter(0)))
        for many, expected in enumerate((None, None, None, (0, 3), (0, 2))):
            self.check(where, claim, run[:many], expected)
        for session in (0, 2, 3):
            self.assertIs(broken(where, ("agrees", session, (X,), "give", 1, (N,)), run), False)

    def test_two_letters(self):
        where = world((GIVE, GET), "get bob ann", "give ann bob", "get bob ann", "give ann bob")
        claim = ("each", "get", (X,), "give", 1, (N,))
        self.check(where, claim, ((1, None), (3, None), (0, letter(0)), (2, letter(1))), None)
        self.check(where, claim, ((1, None), (3, None), (0, letter(1)), (2, letter(1))), (0, 2))
        self.check(where, ("each", "get", (), "give", 1, ()), ((1, None), (3, None), (0, letter(1)), (2, letter(1))), None)
        self.check(where, ("each", "get", (), "give", 1, ()), ((1, None), (0, letter(0)), (2, letter(0))), (0, 2))
        self.check(where, ("each", "get", (), "give", 0, ()), ((1, None), (0, letter(0)), (2, letter(0))), None)

    def test_fewer_sessions_come_first(self):
        where = world((GIVE, GET), "get bob ann", "give ann bob", "get bob ann", "get bob mal")
        claim = ("each", "get", (X,), "give", 1, (N,))
        forged = ("lock", FREE, ("free", ("both", "bob", "mal")))
        run = ((1, None), (0, letter(0)), (2, letter(0)), (3, forged))
        self.check(where, claim, run[:3], (0, 2))
        self.check(where, claim, run, (3,))
        self.check(where, claim, run[:1] + run[3:], (3,))

    def test_then_the_least_tuple(self):
        where = world((SHOW, ECHO), "echo ann", "echo ann", "echo ann", "echo ann")
        claim = ("each", "echo", (X,), "show", 0, (N,))
        run = ((3, FREE), (3, None), (1, FREE), (1, None), (2, FREE), (2, None))
        self.check(where, claim, run, (1,))
        self.check(where, claim, run[:4], (1,))
        self.check(where, claim, run[:2], (3,))
        self.check(where, claim, run[:1], None)

    def test_partners_of_a_set_count_once(self):
        # Three sessions have two partners together, and any two of them have two.
        where = world((ECHO, SHOW), "echo ann", "echo ann", "echo ann", "show bob")
        claim = ("each", "echo", (), "echo", 1, ())
        run = tuple((session, recipe) for session in (0, 1, 2) for recipe in (FREE, None))
        self.check(where, claim, run, None)
        self.check(where, claim, run[:2], (0,))
        self.check(where, claim, run[:3], None)
        self.check(where, claim, run[:4], None)

    def test_a_session_is_never_its_own_partner(self):
        where = world((ECHO,), "echo ann", "echo ann")
        run = ((0, FREE), (0, None))
        self.check(where, ("each", "echo", (X,), "echo", 1, (X,)), run, (0,))
        self.check(where, ("each", "echo", (X,), "echo", 1, (X,)), run + ((1, FREE),), None)
        self.check(where, ("each", "echo", (X,), "echo", 1, (X,)), run + ((1, ("free", HO)),), (0,))

    def test_sessions_without_steps(self):
        where = world((IDLE, SHOW), "idle ann", "idle ann", "show ann")
        self.check(where, ("each", "idle", (), "show", 0, ()), (), (0, 1))
        self.check(where, ("each", "idle", (), "show", 1, ()), (), (0,))
        self.check(where, ("each", "idle", (), "show", 1, ()), ((2, None),), (0, 1))
        self.check(where, ("each", "idle", (), "idle", 0, ()), (), None)
        self.check(where, ("each", "show", (), "idle", 0, ()), ((2, None),), None)
        self.check(world((IDLE,), "idle ann"), ("each", "idle", (), "idle", 0, ()), (), (0,))

    def test_no_sessions(self):
        where = world((IDLE, SHOW), "idle ann")
        self.check(where, ("each", "show", (), "idle", 0, ()), (), None)
        self.check(where, ("each", "idle", (), "show", 0, ()), (), (0,))
        self.check(world((IDLE,)), ("each", "idle", (), "idle", 0, ()), (), None)

    def test_all_four(self):
        where = world((IDLE,), "idle ann", "idle bob", "idle ann", "idle bob")
        self.check(where, ("each", "idle", (HOST_A,), "idle", 0, (HOST_A,)), (), None)
        self.check(where, ("each", "idle", (HOST_A,), "idle", 0, (HI,)), (), (0,))
        where = world((IDLE,), "idle ann", "idle bob", "idle bob", "idle bob")
        self.check(where, ("each", "idle", (HOST_A,), "idle", 0, (HOST_A,)), (), (0,))


class ByChance(unittest.TestCase):
    def test_same_as_plain(self):
        chance = random.Random(71)
        claims = [("each", "both", (X,), "echo", 1, (X,)), ("each", "echo", (X,), "both", 2, (X,)), ("each", "echo", (), "show", 1, ()),
                  ("agrees", 0, (X,), "both", 2, (X,)), ("agrees", 1, (X,), "both", 2, (X,)), ("agrees", 3, (), "both", 3, ()),
                  ("each", "both", (), "both", 2, ()), ("hidden", 0, X), ("hidden", 1, ("mark", "b")), ("hidden", 3, ("pair", X, ("mark", "a")))]
        seen = {}
        for _ in range(120):
            run = run_by_chance(chance, CROWD, 9)
            for claim in claims:
                check_claim(CROWD, claim)
                expected = plain_worlds.broken(CROWD, claim, run)
                seen[claim[0], expected] = seen.get((claim[0], expected), 0) + 1
                self.assertIs(broken(CROWD, claim, run), expected)
                done, bindings, row = replay(CROWD, run)
                if claim[0] == "each":
                    self.assertEqual(crowd(CROWD, claim, run), plain_worlds.crowd_of(CROWD, claim, done, bindings))
                recipe = leak(CROWD, claim, run)
                self.assertIs(recipe is not None, expected and claim[0] == "hidden")
                if recipe is not None:
                    term = plain_worlds.place(CROWD, claim[1], claim[2])
                    self.assertEqual(cook(CROWD.good, row, recipe), plain_worlds.plain.apply(bindings, term))
        self.assertTrue(all(count > 20 for count in seen.values()) and len(seen) == 6, seen)


class General(unittest.TestCase):
    def test_parameter_names(self):
        claim = ("hidden", 0, N)
        self.assertIsNone(check_claim(world=PAIR, claim=claim))
        self.assertIs(broken(world=PAIR, claim=claim, run=FULL), False)
        self.assertIsNone(crowd(world=PAIR, claim=claim, run=FULL))
        self.assertIsNone(leak(world=PAIR, claim=claim, run=FULL))

    def test_bad_moves(self):
        for function in (broken, crowd, leak):
            for claim in (("hidden", 0, N), ("agrees", 0, (), "answer", 0, ()), ("each", "ask", (), "answer", 0, ())):
                with self.assertRaises(BadMove) as caught:
                    function(PAIR, claim, FULL[:3] + ((0, None),))
                self.assertEqual(caught.exception.at, 3)


if __name__ == "__main__":
    unittest.main()
