"""Point [35]: edits of roles, and mends."""

import inspect
import itertools
import random
import unittest

from muffline.claims import broken, check_claim
from muffline.errors import BadClaim, BadEdit, BadRole, TooLarge
from muffline.judge import check, judge
from muffline.mends import edited, mend
from muffline.notation import read_role_term as read
from muffline.worlds import World
from tests import chance_worlds
from tests.test_cases import M, N, X
from tests.test_judge import GROWING, doubler
from tests.test_runs import HI
from tests.worlds import ANSWER, ASK, ECHO, GET, GIVE, SHOW, role, world

ATTACKED = world((ASK, ANSWER), "ask ann mal", "answer bob ann")
SECRET = ("hidden", 1, M)
# With both of these, the second letter has the name of the host that answers.
NAME_IT = ("answer", 1, read("(box (pair (var y) (pair (mark m) (host B))) A)"))
ASK_IT = ("ask", 1, read("(box (pair (mark n) (pair (var x) (host B))) A)"))
SEAL_IT = ("ask", 2, read("(box (pair (var x) (host B)) B)"))
NOT_SOUND = ("ask", 1, read("(box (pair (mark n) (host B)) A)"))
OPEN_IT = ("ask", 0, read("(box (pair (mark n) (host A)) A)"))


def same(first, second):
    return (first.roles, first.sessions, first.good) == (second.roles, second.sessions, second.good)


class Edited(unittest.TestCase):
    def test_no_edits(self):
        self.assertTrue(same(edited(ATTACKED, ()), ATTACKED))

    def test_one_edit(self):
        changed = edited(ATTACKED, (NAME_IT,))
        self.assertIsInstance(changed, World)
        self.assertEqual(changed.roles[0], ASK)
        self.assertEqual(changed.roles[1], ("answer", ("B", "A"), (ANSWER[2][0], ("send", NAME_IT[2]), ANSWER[2][2])))
        self.assertEqual((changed.sessions, changed.good), (ATTACKED.sessions, ATTACKED.good))
        self.assertEqual(changed.steps_of(1)[1], ("send", ("box", ("pair", ("var", 1, "y"), ("pair", ("mark", 1, "m"), ("host", "bob"))), "ann")))

    def test_several_edits(self):
        for edits in itertools.permutations((NAME_IT, ASK_IT, SEAL_IT)):
            changed = edited(ATTACKED, edits)
            self.assertEqual([term for _, term in changed.roles[0][2]], [ASK[2][0][1], ASK_IT[2], SEAL_IT[2]])
            self.assertEqual([term for _, term in changed.roles[1][2]], [ANSWER[2][0][1], NAME_IT[2], ANSWER[2][2][1]])

    def test_send_and_take_are_kept(self):
        for name, where in (("ask", ASK), ("answer", ANSWER)):
            for step in range(3):
                changed = edited(ATTACKED, ((name, step, where[2][step][1]),))
                self.assertTrue(same(changed, ATTACKED))
        changed = edited(world((SHOW, ECHO), "show ann"), (("echo", 0, ("pair", X, HI)), ("echo", 1, X), ("show", 0, HI)))
        self.assertEqual(changed.roles[1][2], (("take", ("pair", X, HI)), ("send", X)))
        self.assertEqual(changed.roles[0][2], (("send", HI),))

    def test_the_given_world_stays(self):
        before = (ATTACKED.roles, ATTACKED.sessions, ATTACKED.good, ATTACKED.steps_of(0), ATTACKED.steps_of(1))
        edited(ATTACKED, (NAME_IT, ASK_IT))
        mend(ATTACKED, SECRET, (NAME_IT, ASK_IT))
        self.assertEqual((ATTACKED.roles, ATTACKED.sessions, ATTACKED.good, ATTACKED.steps_of(0), ATTACKED.steps_of(1)), before)
        self.assertEqual(ATTACKED.roles, (ASK, ANSWER))

    def test_edits_that_name_no_step(self):
        for edits in ((("asks", 0, N),), (("", 0, N),), (("ask", 3, N),), (("ask", -1, N),), (("ask", -3, N),), (("answer", 99, N),), (("ASK", 0, N),),
                      (NAME_IT, ("ask", 3, N)), (("ask", -2, N), NAME_IT), (("show", 0, N),)):
            with self.assertRaises(BadEdit):
                edited(ATTACKED, edits)
            with self.assertRaises(BadEdit):
                mend(ATTACKED, SECRET, edits)
        with self.assertRaises(BadEdit):
            edited(world(()), (("ask", 0, N),))

    def test_one_step_twice(self):
        for edits in ((NAME_IT, NAME_IT), (NAME_IT, ASK_IT, ("answer", 1, M)), (("ask", 0, N), ("ask", 0, HI)), (NAME_IT, ("answer", 1, None))):
            with self.assertRaises(BadEdit):
                edited(ATTACKED, edits)
            with self.assertRaises(BadEdit):
                mend(ATTACKED, SECRET, edits)
        edited(ATTACKED, (("ask", 0, ASK[2][0][1]), ("answer", 0, ANSWER[2][0][1])))

    def test_roles_that_are_not_sound(self):
        for edits, at, step in (
            ((NOT_SOUND,), 0, 2), ((("ask", 0, M), ("answer", 1, ("own", "A"))), 1, 1), ((("answer", 1, ("var", "z")),), 1, 1),
            ((("answer", 2, ("lock", ("var", "z"), ("var", "w"))), ("ask", 0, ("var", "x"))), 0, 0),
            ((("answer", 0, ("box", N, "C")),), 1, 0),
        ):
            with self.assertRaises(BadRole) as caught:
                edited(ATTACKED, edits)
            self.assertEqual((caught.exception.role, caught.exception.step), (at, step))

    def test_terms_of_any_form(self):
        for term in (None, 0, "", "mark", (), ((),), ("mark",), ("mark", 0, "n"), ("var", 0, "x"), ("road", 0), (N, N), ("send", N), ("box", N, 0), ("pair", N)):
            with self.assertRaises(BadRole) as caught:
                edited(ATTACKED, (("answer", 2, term),))
            self.assertEqual((caught.exception.role, caught.exception.step), (1, 2))
            numbers, paper, trials = mend(ATTACKED, SECRET, (("answer", 2, term),))
            self.assertEqual((numbers, paper, trials[1:]), (None, None, (((0,), None),)))

    def test_bad_edits_come_first(self):
        for edits in ((NOT_SOUND, ("ask", 9, N)), (("ask", 9, N), NOT_SOUND), (NOT_SOUND, NOT_SOUND), (("ask", 0, None), ("no", 0, N))):
            with self.assertRaises(BadEdit):
                edited(ATTACKED, edits)
        with self.assertRaises(BadEdit):
            mend(GROWING, ("hidden", 0, N), (("seed", 1, N),))
        with self.assertRaises(BadEdit):
            mend(ATTACKED, SECRET, (("seed", 1, N),), limit=1)

    def test_parameter_names(self):
        self.assertTrue(same(edited(world=ATTACKED, edits=()), ATTACKED))
        self.assertEqual(mend(world=ATTACKED, claim=SECRET, edits=(), limit=20000), mend(ATTACKED, SECRET, ()))


def mend_by_hand(where, claim, edits):
    """The mend, found by judging all sets of edits."""
    sets = sorted([numbers for many in range(len(edits) + 1) for numbers in itertools.combinations(range(len(edits)), many)],
                  key=lambda numbers: (len(numbers), numbers))
    trials = []
    for numbers in sets:
        run = None
        try:
            changed = edited(where, tuple(edits[number] for number in numbers))
            check_claim(changed, claim)
            kind, evidence = judge(changed, claim)
            if kind == "paper":
                return numbers, evidence, tuple(trials)
            run = evidence
        except (BadRole, BadClaim):
            pass
        trials.append((numbers, run))
    return None, None, tuple(trials)


class Mend(unittest.TestCase):
    def check(self, where, claim, edits):
        found = mend(where, claim, edits)
        self.assertEqual(found, mend_by_hand(where, claim, edits))
        numbers, paper, trials = found
        if numbers is not None:
            self.assertTrue(check(edited(where, tuple(edits[number] for number in numbers)), claim, paper))
        for tried, run in trials:
            if run is not None:
                self.assertTrue(broken(edited(where, tuple(edits[number] for number in tried)), claim, run))
        return found

    def test_the_attacked_world(self):
        edits = (SEAL_IT, NAME_IT, ASK_IT)
        numbers, paper, trials = self.check(ATTACKED, SECRET, edits)
        self.assertEqual(numbers, (2,))
        self.assertEqual([tried for tried, _ in trials], [(), (0,), (1,)])
        fixed = edited(ATTACKED, (ASK_IT,))
        self.assertEqual(judge(fixed, SECRET), ("paper", paper))

    def test_nothing_to_mend(self):
        fixed = edited(ATTACKED, (NAME_IT, ASK_IT))
        for edits in ((), (SEAL_IT,), (NOT_SOUND, SEAL_IT), (("ask", 0, None),)):
            numbers, paper, trials = self.check(fixed, SECRET, edits)
            self.assertEqual((numbers, paper, trials), ((), judge(fixed, SECRET)[1], ()))

    def test_no_mend(self):
        for edits in ((), (SEAL_IT,), (SEAL_IT, NOT_SOUND), (NAME_IT, SEAL_IT)):
            numbers, paper, trials = self.check(ATTACKED, SECRET, edits)
            self.assertEqual((numbers, paper), (None, None))
            self.assertEqual(len(trials), 2 ** len(edits))
        self.assertEqual(mend(ATTACKED, SECRET, ()), (None, None, (((), judge(ATTACKED, SECRET)[1]),)))

    def test_unfit_sets(self):
        # The first edit is not sound; the second one takes the role's only mark, so the claim does not fit.
        where = world((role("tell", "take (var x)", "send (mark n)", parameters=("A",)),), "tell ann")
        claim = ("hidden", 0, N)
        edits = (("tell", 0, ("lock", X, ("var", "y"))), ("tell", 1, HI))
        numbers, paper, trials = self.check(where, claim, edits)
        self.assertEqual((numbers, paper), (None, None))
        self.assertEqual(trials, (((), ((0, ("free", ("road", 0))), (0, None))), ((0,), None), ((1,), None), ((0, 1), None)))
        numbers, paper, trials = self.check(where, claim, (edits[0], ("tell", 1, ("digest", N))))
        self.assertEqual((numbers, trials[1:]), ((1,), (((0,), None),)))

    def test_claims_that_do_not_fit_any_more(self):
        where = world((GIVE, GET), "give ann mal", "get bob ann")
        edits = (("give", 0, HI), ("get", 0, ("lock", X, ("both", "B", "B"))))
        numbers, _, trials = self.check(where, ("hidden", 0, N), edits)
        self.assertIsNone(numbers)
        self.assertEqual([run is None for _, run in trials], [False, True, False, True])

    def test_fewer_edits_first_then_ascending(self):
        where = world((SHOW, ECHO), "show ann", "echo bob")
        claim = ("hidden", 0, N)
        good, other = ("show", 0, ("digest", N)), ("echo", 0, ("pair", X, HI))
        third = ("echo", 1, ("pair", X, HI))
        for edits, expected, many in (
            ((good, other, third), (0,), 1), ((other, good, third), (1,), 2), ((other, third, good), (2,), 3), ((other, third), None, 4),
        ):
            numbers, _, trials = self.check(where, claim, edits)
            self.assertEqual((numbers, len(trials)), (expected, many))

    def test_a_pair_that_comes_first(self):
        # Two different pairs of edits mend the world; the one with the lesser numbers is found.
        two = role("two", "send (mark n)", "send (mark n)", "send (mark n)", parameters=("A",))
        where = world((two,), "two ann")
        hide = [("two", at, ("digest", N)) for at in range(3)]
        numbers, _, trials = self.check(where, ("hidden", 0, N), tuple(hide))
        self.assertEqual((numbers, len(trials)), ((0, 1, 2), 7))
        one = role("one", "send (mark n)", "send (mark n)", "send (word hi)", "send (word hi)", parameters=("A",))
        where = world((one,), "one ann")
        edits = (("one", 2, ("word", "ho")), ("one", 0, ("digest", N)), ("one", 3, ("word", "ho")), ("one", 1, ("digest", N)))
        numbers, _, trials = self.check(where, ("hidden", 0, N), edits)
        self.assertEqual(numbers, (1, 3))
        self.assertEqual([tried for tried, _ in trials], [(), (0,), (1,), (2,), (3,), (0, 1), (0, 2), (0, 3), (1, 2)])

    def test_eight_edits(self):
        roles = [role(name, *["send (mark n)"] * 2, parameters=("A",)) for name in ("a", "b", "c", "d")]
        where = world(roles, "a ann", "b ann", "c ann", "d ann")
        claim = ("agrees", 0, (), "b", 1, ())
        edits = tuple((name, step, ("digest", N)) for name in ("a", "b", "c", "d") for step in (0, 1))
        numbers, paper, trials = mend(where, claim, edits)
        self.assertEqual((numbers, paper), (None, None))
        self.assertEqual(len(trials), 256)
        self.assertEqual([tried for tried, _ in trials], sorted([tried for tried, _ in trials], key=lambda tried: (len(tried), tried)))

    def test_the_limit(self):
        fixed = edited(ATTACKED, (NAME_IT, ASK_IT))
        many = len(judge(fixed, SECRET)[1])
        edits = (SEAL_IT, NAME_IT, ASK_IT)
        with self.assertRaises(TooLarge):
            mend(ATTACKED, SECRET, edits, limit=3)
        with self.assertRaises(TooLarge):
            mend(fixed, SECRET, edits, limit=many - 1)
        self.assertEqual(mend(fixed, SECRET, edits, limit=many)[0], ())
        limit = inspect.signature(mend).parameters["limit"]
        self.assertEqual((limit.default, limit.kind), (20000, limit.KEYWORD_ONLY))

    def test_too_large_for_any_set(self):
        claim = ("hidden", 0, N)
        shrink, grow = ("grow", 1, ("lock", X, ("both", "A", "B"))), ("grow", 1, GROWING.roles[1][2][1][1])
        with self.assertRaises(TooLarge):
            mend(GROWING, claim, (shrink,))
        self.assertEqual(mend(edited(GROWING, (shrink,)), claim, (grow,))[0], ())
        # Without edits and with the first one the mark is shown at once; with the second one alone the tree is too large.
        where = World((SHOW, *GROWING.roles), (("show", ("ann",)), *GROWING.sessions), GROWING.good)
        hide = ("show", 0, ("digest", N))
        self.assertEqual(mend(where, claim, (shrink,))[0], None)
        with self.assertRaises(TooLarge):
            mend(where, claim, (shrink, hide))
        self.assertEqual(mend(edited(where, (shrink,)), claim, (hide, grow))[0], (0,))

    def test_least_recipes_that_are_too_large(self):
        where = world((doubler(12),), "doubler ann")
        with self.assertRaises(TooLarge):
            mend(where, ("hidden", 0, ("mark", "z")), ())

    def test_by_chance(self):
        chance = random.Random(111)
        kinds = {}
        for _ in range(150):
            where = chance_worlds.world(chance, 2, 2, 2)
            claim = chance_worlds.claim(chance, where)
            places = [(one[0], step) for one in where.roles for step in range(len(one[2]))]
            chosen = chance.sample(places, min(3, len(places)))
            edits = tuple((name, step, chance_worlds.role_term(chance, 2)) for name, step in chosen)
            if claim is not None:
                numbers, _, _ = self.check(where, claim, edits)
                kinds[numbers] = kinds.get(numbers, 0) + 1
        self.assertGreater(kinds.pop(None), 5)
        self.assertGreater(kinds.pop(()), 5)
        self.assertGreater(sum(kinds.values()), 5)


if __name__ == "__main__":
    unittest.main()
