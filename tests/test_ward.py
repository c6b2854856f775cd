"""Points [39] and [40]: wards, their verdicts and their edits."""

import inspect
import random
import unittest

from muffline.claims import broken, check_claim
from muffline.errors import BadClaim, BadMove, BadRole, BadWorld, MuffError, TooLarge, UnknownName
from muffline.judge import check, judge
from muffline.runs import replay, schedule_of
from muffline.ward import Ward
from muffline.worlds import World
from tests import chance_worlds
from tests.test_cases import M, N, SMALL, X
from tests.test_judge import GROW, SEED, doubler
from tests.test_mends import ASK_IT, ATTACKED, NAME_IT, SECRET
from tests.test_runs import HI
from tests.worlds import ASK, ECHO, GET, GIVE, IDLE, SHOW, role, world

VALUES_OF_ANY_FORM = (None, 0, -1, 7, "", "ask", "hidden", (), ((),), (None,), (0,), ("hidden",), ("hidden", 0), ("ask", ("A", "B")), (((),),), ("send", None))
SMALL_WORLD = world((SHOW, ECHO, GIVE), "show ann", "echo bob")
LOST, KEPT = ("hidden", 0, N), ("hidden", 1, X)
# The world keeps the third claim and loses the first two.
CLAIMS = (LOST, KEPT, ("agrees", 0, (), "echo", 0, ()))


def shape(where):
    return (where.roles, where.sessions, where.good)


def state_of(ward):
    """All that can be seen of a ward without asking for verdicts."""
    return shape(ward.world), ward.claims, len(ward)


class WardTests(unittest.TestCase):
    def assert_judged(self, ward, number):
        """The verdict is judge's, and the next one is the same, kept."""
        expected = judge(ward.world, ward.claims[number])
        self.assertEqual(ward.verdict(number), (*expected, "judged"))
        self.assertEqual(ward.verdict(number), (*expected, "kept"))

    def assert_raises(self, ward, error, method, *args):
        """The error is raised, and nothing changes: the state, the verdicts, and what undo takes back."""
        before = state_of(ward)
        verdicts = ward._verdicts
        for _ in range(2):
            with self.assertRaises(error) as caught:
                getattr(ward, method)(*args)
            self.assertIs(caught.exception.__class__, error)
            self.assertEqual(state_of(ward), before)
            self.assertEqual(ward._verdicts, verdicts)
        return caught.exception


class Making(WardTests):
    def test_attributes(self):
        ward = Ward(SMALL_WORLD, CLAIMS)
        self.assertIs(ward.world, SMALL_WORLD)
        self.assertEqual(ward.claims, CLAIMS)
        self.assertEqual(len(ward), 3)
        self.assertIsInstance(Ward.world, property)
        self.assertIsInstance(Ward.claims, property)
        self.assertEqual(len(Ward(world(()), ())), 0)
        self.assertEqual(Ward(world=SMALL_WORLD, claims=CLAIMS[:2], limit=5).claims, CLAIMS[:2])
        self.assertEqual(inspect.signature(Ward).parameters["limit"].default, 20000)

    def test_wrong_claims(self):
        for wrong in (("hidden", 2, N), ("hidden", 1, N), ("agrees", 0, (), "get", 0, ()), ("each", "show", (N,), "echo", 1, ())) + VALUES_OF_ANY_FORM:
            for claims in ((wrong,), (*CLAIMS, wrong), (wrong, *CLAIMS), (CLAIMS[0], wrong, wrong)):
                with self.assertRaises(BadClaim):
                    Ward(SMALL_WORLD, claims)

    def test_claims_that_are_no_tuple(self):
        for claims in (None, 0, "", "hidden", 5):
            with self.assertRaises(BadClaim):
                Ward(SMALL_WORLD, claims)
        with self.assertRaises(BadClaim):
            Ward(SMALL_WORLD, LOST)

    def test_two_wards_share_nothing(self):
        one, other = Ward(SMALL_WORLD, CLAIMS), Ward(SMALL_WORLD, CLAIMS)
        one.verdict(0)
        one.drop_claim(2)
        one.add_session(("show", ("bob",)))
        self.assertEqual(state_of(other), (shape(SMALL_WORLD), CLAIMS, 3))
        self.assertEqual(other.verdict(0)[2], "judged")
        with self.assertRaises(UnknownName):
            other.undo()
        one.undo()
        self.assertEqual(one.claims, CLAIMS[:2])


class Verdicts(WardTests):
    def test_judged_then_kept(self):
        for where, claim in SMALL:
            ward = Ward(where, (claim,))
            self.assert_judged(ward, 0)
            self.assertEqual(ward.verdict(number=0)[2], "kept")

    def test_each_claim_has_its_own(self):
        ward = Ward(SMALL_WORLD, CLAIMS)
        for number in (2, 0, 1):
            self.assert_judged(ward, number)
        self.assertEqual([ward.verdict(number)[0] for number in range(3)], ["run", "run", "paper"])
        twice = Ward(SMALL_WORLD, (LOST, LOST))
        self.assert_judged(twice, 1)
        self.assert_judged(twice, 0)

    def test_numbers_that_are_no_claim(self):
        ward = Ward(SMALL_WORLD, CLAIMS)
        for number in (-1, -3, 3, 4, 10 ** 20):
            self.assert_raises(ward, UnknownName, "verdict", number)
        self.assert_raises(Ward(SMALL_WORLD, ()), UnknownName, "verdict", 0)

    def test_kept_where_the_run_or_the_paper_is_still_good(self):
        ward = Ward(SMALL_WORLD, CLAIMS)
        first = [ward.verdict(number) for number in range(3)]
        ward.add_role(ASK)
        ward.add_claim(("hidden", 0, HI))
        ward.drop_role("give")
        for number in range(3):
            self.assertEqual(ward.verdict(number), (*first[number][:2], "kept"))
        # More sessions: the runs are still good, the paper is not.
        ward.add_session(("show", ("bob",)))
        self.assertEqual([ward.verdict(number)[2] for number in range(3)], ["kept", "kept", "judged"])
        self.assertEqual(ward.verdict(2)[:2], judge(ward.world, CLAIMS[2]))
        ward.drop_session()
        self.assertEqual([ward.verdict(number)[2] for number in range(3)], ["kept", "kept", "judged"])

    def test_a_kept_run_need_not_be_judges(self):
        where = world((SHOW, ECHO), "show ann", "echo ann")
        ward = Ward(where, (("hidden", 1, X),))
        kind, run, origin = ward.verdict(0)
        self.assertEqual((kind, schedule_of(run), origin), ("run", (0, 1), "judged"))
        ward.change_step("show", 0, ("digest", N))
        self.assertEqual(ward.verdict(0), ("run", run, "kept"))
        ward.set_good(())
        self.assertEqual(ward.verdict(0), ("run", run, "kept"))

    def test_judged_anew_where_the_run_is_impossible(self):
        ward = Ward(world((SHOW, ECHO), "show ann", "echo bob"), (("hidden", 0, N),))
        self.assertEqual(ward.verdict(0)[0], "run")
        ward.add_step("show", 0, ("take", ("var", "z")))
        with self.assertRaises(BadMove):
            replay(ward.world, ((0, None),))
        self.assertEqual(ward.verdict(0), ("run", ((0, ("free", ("road", 0))), (0, None)), "judged"))
        ward.undo()
        self.assertEqual(ward.verdict(0), ("run", ((0, None),), "kept"))

    def test_judged_anew_where_the_run_breaks_nothing(self):
        ward = Ward(world((SHOW, ECHO), "show ann", "echo bob"), (("hidden", 0, N),))
        self.assertEqual(ward.verdict(0)[0], "run")
        ward.change_step("show", 0, ("digest", N))
        kind, paper, origin = ward.verdict(0)
        self.assertEqual((kind, origin), ("paper", "judged"))
        self.assertTrue(check(ward.world, ("hidden", 0, N), paper))
        ward.change_step("show", 0, N)
        self.assertEqual(ward.verdict(0), ("run", ((0, None),), "judged"))

    def test_judged_anew_where_the_paper_is_wrong(self):
        ward = Ward(world((GIVE, GET), "give ann bob", "get bob ann"), (("hidden", 0, N),))
        self.assertEqual(ward.verdict(0)[0], "paper")
        ward.set_good(("ann",))
        self.assert_judged(ward, 0)
        self.assertEqual(ward.verdict(0)[0], "run")
        ward.set_good(("ann", "bob"))
        self.assert_judged(ward, 0)
        self.assertEqual(ward.verdict(0)[0], "paper")

    def test_a_run_that_becomes_too_large(self):
        # The letters of the last run double twice; after the edits each becomes fourteen times as large.
        taker = role("taker", "take (lock (pair (pair (var a) (var b)) (var c)) (both A B))", "send (mark m)")
        grow = ("grow", GROW[1], (GROW[2][0], ("send", ("lock", ("pair", X, X), ("both", "A", "B")))))
        give = ("seed", SEED[1], (("send", ("lock", N, ("both", "A", "B"))),))
        where = world((taker, give, grow), "taker ann bob", "seed ann bob", "grow ann bob", "grow ann bob")
        claim = ("hidden", 0, M)
        ward = Ward(where, (claim,))
        kind, run, origin = ward.verdict(0)
        self.assertEqual((kind, schedule_of(run), origin), ("run", (1, 2, 2, 3, 3, 0, 0), "judged"))
        ward.change_step("grow", 1, GROW[2][1][1])
        ward.change_step("seed", 0, SEED[2][0][1])
        with self.assertRaises(TooLarge):
            broken(ward.world, claim, run)
        ward.set_good(())
        with self.assertRaises(TooLarge):
            broken(ward.world, claim, run)
        kind, other, origin = ward.verdict(0)
        self.assertEqual((kind, schedule_of(other), origin), ("run", (0, 0), "judged"))
        self.assertEqual(ward.verdict(0), ("run", other, "kept"))

    def test_a_paper_that_becomes_too_large(self):
        # The last role takes only what the one before it has made, so the paper is right up to the large letter.
        grow = ("grow", GROW[1], (GROW[2][0], ("send", ("lock", GROW[2][1][1][1], ("both", "A", "A")))))
        end = role("end", "take (lock (var x) (both A A))", "send (lock (var x) (both A A))", parameters=("A",))
        where, claim = world((SEED, grow, end), "seed ann bob", "grow ann bob", "end ann"), ("hidden", 0, N)
        small, large = end[2][1][1], grow[2][1][1]
        ward = Ward(where, (claim,))
        ward.change_step("end", 1, large)
        self.assert_raises(ward, TooLarge, "verdict", 0)
        ward.change_step("end", 1, small)
        kind, paper, origin = ward.verdict(0)
        self.assertEqual((kind, origin), ("paper", "judged"))
        ward.change_step("end", 1, large)
        with self.assertRaises(TooLarge):
            check(ward.world, claim, paper)
        self.assert_raises(ward, TooLarge, "verdict", 0)
        # The last verdict is still there.
        ward.change_step("end", 1, small)
        self.assertEqual(ward.verdict(0), ("paper", paper, "kept"))

    def test_the_limit(self):
        for where, claim in SMALL:
            kind, evidence = judge(where, claim)
            if kind == "paper":
                many = len(evidence)
                self.assertEqual(Ward(where, (claim,), many).verdict(0), (kind, evidence, "judged"))
                ward = Ward(where, (claim,), limit=many - 1)
                self.assert_raises(ward, TooLarge, "verdict", 0)

    def test_too_large_leaves_the_last_verdict(self):
        where = world((SHOW, ECHO), "show ann")
        ward = Ward(where, (("hidden", 0, N),), 5)
        run = ward.verdict(0)[1]
        self.assertEqual(run, ((0, None),))
        ward.change_step("show", 0, ("digest", N))
        ward.add_session(("echo", ("ann",)))
        ward.add_session(("echo", ("bob",)))
        self.assert_raises(ward, TooLarge, "verdict", 0)
        ward.change_step("show", 0, N)
        self.assertEqual(ward.verdict(0), ("run", run, "kept"))
        # Without a last verdict, there is none after this either.
        other = Ward(ATTACKED, (SECRET,), 3)
        self.assert_raises(other, TooLarge, "verdict", 0)

    def test_least_recipes_that_are_too_large(self):
        ward = Ward(world((doubler(12),), "doubler ann"), (("hidden", 0, ("mark", "z")),))
        self.assert_raises(ward, TooLarge, "verdict", 0)

    def test_mended_by_edits(self):
        ward = Ward(ATTACKED, (SECRET,))
        self.assertEqual(ward.verdict(0)[0], "run")
        ward.change_step(*ASK_IT)
        ward.change_step(*NAME_IT)
        self.assertEqual(ward.verdict(0)[0::2], ("paper", "judged"))
        ward.undo()
        ward.undo()
        self.assertEqual(ward.verdict(0)[0::2], ("run", "kept"))


class Edits(WardTests):
    def setUp(self):
        self.ward = Ward(SMALL_WORLD, CLAIMS)

    def check(self, method, args, roles=None, sessions=None, good=None, claims=None):
        """An edit changes what it says, and is taken back."""
        before, old, verdicts = self.ward.world, state_of(self.ward), self.ward._verdicts
        self.assertIsNone(getattr(self.ward, method)(*args))
        expected = (roles or before.roles, before.sessions if sessions is None else sessions, before.good if good is None else good)
        self.assertEqual(shape(self.ward.world), expected)
        self.assertEqual(self.ward.claims, old[1] if claims is None else claims)
        self.assertEqual(len(self.ward), len(self.ward.claims))
        self.assertEqual(shape(before), old[0])
        self.assertIsNone(self.ward.undo())
        self.assertEqual((state_of(self.ward), self.ward._verdicts), (old, verdicts))

    def test_add_role(self):
        self.check("add_role", (ASK,), roles=(SHOW, ECHO, GIVE, ASK))

    def test_drop_role(self):
        self.check("drop_role", ("give",), roles=(SHOW, ECHO))

    def test_change_step(self):
        self.check("change_step", ("echo", 1, X), roles=(SHOW, ("echo", ("A",), (ECHO[2][0], ("send", X))), GIVE))
        self.check("change_step", ("echo", 0, ("stamp", X, "A")), roles=(SHOW, ("echo", ("A",), (("take", ("stamp", X, "A")), ECHO[2][1])), GIVE))
        self.check("change_step", ("show", 0, ("box", N, "bob")), roles=(("show", ("A",), (("send", ("box", N, "bob")),)), ECHO, GIVE))

    def test_add_step(self):
        step = ("send", HI)
        for at in range(3):
            self.check("add_step", ("echo", at, step), roles=(SHOW, ("echo", ("A",), ECHO[2][:at] + (step,) + ECHO[2][at:]), GIVE))
        self.check("add_step", ("give", 1, ("take", ("var", "y"))), roles=(SHOW, ECHO, ("give", ("A", "B"), GIVE[2] + (("take", ("var", "y")),))))
        self.ward.add_role(IDLE)
        self.check("add_step", ("idle", 0, step), roles=(SHOW, ECHO, GIVE, ("idle", ("A",), (step,))))

    def test_drop_step(self):
        self.check("drop_step", ("echo", 1), roles=(SHOW, ("echo", ("A",), ECHO[2][:1]), GIVE))
        self.check("drop_step", ("give", 0), roles=(SHOW, ECHO, ("give", ("A", "B"), ())))

    def test_add_session(self):
        self.check("add_session", (("give", ("ann", "mal")),), sessions=(*SMALL_WORLD.sessions, ("give", ("ann", "mal"))))

    def test_drop_session(self):
        self.ward.add_session(("show", ("mal",)))
        self.check("drop_session", (), sessions=SMALL_WORLD.sessions)
        empty = Ward(SMALL_WORLD, ())
        empty.drop_session()
        empty.drop_session()
        self.assertEqual(shape(empty.world), (SMALL_WORLD.roles, (), SMALL_WORLD.good))
        self.assert_raises(empty, UnknownName, "drop_session")

    def test_set_good(self):
        for good in ((), ("ann",), ("ann", "bob", "cat"), ("zed",), ("ann", "bob")):
            self.check("set_good", (good,), good=good)

    def test_add_claim(self):
        for claim in (("hidden", 0, HI), ("each", "give", (), "echo", 2, ()), CLAIMS[0]):
            self.check("add_claim", (claim,), claims=(*CLAIMS, claim))

    def test_drop_claim(self):
        for number in range(3):
            self.check("drop_claim", (number,), claims=CLAIMS[:number] + CLAIMS[number + 1:])

    def test_parameter_names(self):
        ward = self.ward
        ward.add_role(role=ASK)
        ward.drop_role(name="ask")
        ward.change_step(role="echo", step=1, term=X)
        ward.add_step(role="echo", at=2, step=("send", HI))
        ward.drop_step(role="echo", at=2)
        ward.add_session(session=("show", ("bob",)))
        ward.drop_session()
        ward.set_good(good=("ann",))
        ward.add_claim(claim=LOST)
        ward.drop_claim(number=3)
        for _ in range(10):
            ward.undo()
        self.assertEqual(state_of(ward), (shape(SMALL_WORLD), CLAIMS, 3))

    def test_names_that_do_not_exist(self):
        for name in ("get", "", "SHOW", "shows", "sho"):
            for method, rest in (("drop_role", ()), ("change_step", (0, HI)), ("add_step", (0, ("send", HI))), ("drop_step", (0,))):
                self.assert_raises(self.ward, UnknownName, method, name, *rest)

    def test_steps_that_do_not_exist(self):
        for step in (-1, -2, 2, 3, 99):
            for term in (HI, None):
                self.assert_raises(self.ward, UnknownName, "change_step", "echo", step, term)
            self.assert_raises(self.ward, UnknownName, "drop_step", "echo", step)
        for at in (-1, -2, -3, 3, 4, 99):
            for step in (("send", HI), None, ("take", ("own", "B"))):
                self.assert_raises(self.ward, UnknownName, "add_step", "echo", at, step)

    def test_claims_that_do_not_exist(self):
        for number in (-1, -3, 3, 4, 99):
            self.assert_raises(self.ward, UnknownName, "drop_claim", number)
        self.assert_raises(Ward(SMALL_WORLD, ()), UnknownName, "drop_claim", 0)

    def test_bad_roles(self):
        for method, args, at, step in (
            ("add_role", (role("ask", "send (own A)")[:2] + ((("send", ("own", "B")),),),), 3, 0), ("add_role", (("ask", (), ()),), 3, -1),
            ("change_step", ("echo", 0, HI), 1, 1), ("change_step", ("echo", 1, ("var", "y")), 1, 1), ("change_step", ("give", 0, ("var", "y")), 2, 0),
            ("add_step", ("echo", 0, ("send", X)), 1, 0), ("add_step", ("echo", 2, ("give", X)), 1, 2), ("drop_step", ("echo", 0), 1, 0),
        ):
            wrong = self.assert_raises(self.ward, BadRole, method, *args)
            self.assertEqual((wrong.role, wrong.step), (at, step), (method, args))

    def test_values_of_any_form(self):
        for value in VALUES_OF_ANY_FORM:
            self.assertEqual(self.assert_raises(self.ward, BadRole, "add_role", value).role, 3)
            self.assertEqual(self.assert_raises(self.ward, BadRole, "change_step", "echo", 1, value).step, 1)
            self.assertEqual(self.assert_raises(self.ward, BadRole, "add_step", "echo", 1, value).step, 1)
            self.assert_raises(self.ward, BadWorld, "add_session", value)
            if value not in ((), ("hidden",)):
                self.assert_raises(self.ward, BadWorld, "set_good", value)
            self.assert_raises(self.ward, BadClaim, "add_claim", value)

    def test_too_many_steps_of_a_role(self):
        for _ in range(4):
            self.ward.add_step("echo", 2, ("send", HI))
        wrong = self.assert_raises(self.ward, BadRole, "add_step", "echo", 2, ("send", HI))
        self.assertEqual((wrong.role, wrong.step), (1, -1))

    def test_bad_worlds(self):
        self.ward.add_role(role("long", *["send (mark n)"] * 5, parameters=("A",)))
        for method, args in (
            ("add_role", (IDLE,)), ("drop_role", ("show",)), ("drop_role", ("echo",)), ("add_session", (("get", ("ann", "bob")),)),
            ("add_session", (("show", ("ann", "bob")),)), ("add_session", (("show", ("Ann",)),)), ("add_session", (("show", ()),)),
            ("set_good", (("bob", "ann"),)), ("set_good", (("ann", "ann"),)), ("set_good", (("ANN",),)), ("set_good", ("ann",)),
        ):
            self.assert_raises(self.ward, BadWorld, method, *args)
        self.ward.drop_role("give")
        self.assert_raises(self.ward, BadWorld, "add_role", ("show", ("A",), ()))
        self.ward.add_session(("long", ("ann",)))
        self.assert_raises(self.ward, BadWorld, "add_session", ("long", ("ann",)))
        self.ward.add_session(("show", ("ann",)))
        self.assert_raises(self.ward, BadWorld, "add_session", ("show", ("ann",)))

    def test_too_many_steps_of_all(self):
        where = world((role("long", *["send (mark n)"] * 6, parameters=("A",)), SHOW), "long ann", "show ann", "show bob")
        ward = Ward(where, ())
        ward.add_step("show", 1, ("send", HI))
        ward.drop_step("long", 5)
        ward.add_step("long", 0, ("send", HI))
        ward.add_step("show", 0, ("send", HI))
        self.assert_raises(ward, BadWorld, "add_step", "show", 0, ("send", HI))
        self.assert_raises(ward, BadRole, "add_step", "show", 0, ("send", X))

    def test_bad_claims(self):
        self.ward.add_claim(("agrees", 0, (), "give", 1, ()))
        for method, args in (
            ("drop_role", ("give",)), ("drop_step", ("give", 0)), ("drop_session", ()), ("change_step", ("show", 0, HI)), ("drop_step", ("show", 0)),
            ("change_step", ("echo", 0, ("var", "y"))), ("add_claim", (("hidden", 2, N),)), ("add_claim", (("hidden", 1, N),)), ("add_claim", (("agrees", 0, (), "get", 0, ()),)),
        ):
            error = BadRole if args[:2] == ("echo", 0) else BadClaim
            self.assert_raises(self.ward, error, method, *args)
        self.ward.drop_step("echo", 1)
        self.assert_raises(self.ward, BadClaim, "change_step", "echo", 0, ("var", "y"))
        self.ward.drop_claim(1)
        self.ward.change_step("echo", 0, ("var", "y"))

    def test_the_order_of_the_errors(self):
        # A name that does not exist comes first, then the role, then the world, then the claims.
        where = world((SHOW, role("six", *["send (mark n)"] * 6, parameters=("A",)), IDLE), "show ann", "six ann")
        ward = Ward(where, (("hidden", 0, N), ("hidden", 1, N)))
        self.assert_raises(ward, UnknownName, "change_step", "show", 1, None)
        self.assert_raises(ward, UnknownName, "change_step", "no", 0, None)
        self.assert_raises(ward, UnknownName, "add_step", "no", 9, None)
        self.assert_raises(ward, BadRole, "change_step", "show", 0, None)
        self.assert_raises(ward, BadRole, "change_step", "show", 0, X)
        self.assert_raises(ward, BadRole, "add_role", ("show", ("A",), ((),)))
        self.assert_raises(ward, BadWorld, "drop_role", "show")
        self.assert_raises(ward, BadClaim, "change_step", "show", 0, HI)
        self.assert_raises(ward, BadClaim, "drop_session")
        self.assert_raises(ward, BadWorld, "add_session", ("six", ("ann",)))
        self.assert_raises(ward, BadWorld, "add_session", ("no", ("ann",)))

    def test_drop_claim_moves_the_verdicts(self):
        first = [self.ward.verdict(number) for number in range(3)]
        self.ward.drop_claim(0)
        self.assertEqual([self.ward.verdict(number) for number in range(2)], [(*one[:2], "kept") for one in first[1:]])
        self.ward.drop_claim(0)
        self.assertEqual(self.ward.verdict(0), (*first[2][:2], "kept"))
        self.ward.add_claim(LOST)
        self.assertEqual(self.ward.verdict(1)[2], "judged")
        self.assertEqual(self.ward.verdict(0)[2], "kept")
        self.ward.drop_claim(1)
        self.assertEqual(self.ward.verdict(0)[2], "kept")


class Undo(WardTests):
    def test_without_an_edit(self):
        ward = Ward(SMALL_WORLD, CLAIMS)
        self.assert_raises(ward, UnknownName, "undo")
        ward.verdict(0)
        self.assert_raises(ward, UnknownName, "undo")
        self.assertEqual(ward.verdict(0)[2], "kept")
        ward.drop_claim(2)
        ward.undo()
        self.assert_raises(ward, UnknownName, "undo")

    def test_several_times(self):
        ward = Ward(SMALL_WORLD, CLAIMS)
        states = [state_of(ward)]
        for method, args in (("add_session", (("show", ("mal",)),)), ("drop_claim", (1,)), ("change_step", ("echo", 1, X)), ("set_good", ((),)),
                             ("add_claim", (("hidden", 2, N),)), ("drop_claim", (0,)), ("drop_role", ("give",))):
            getattr(ward, method)(*args)
            states.append(state_of(ward))
        for state in states[-2::-1]:
            ward.undo()
            self.assertEqual(state_of(ward), state)
        self.assert_raises(ward, UnknownName, "undo")

    def test_edits_between(self):
        ward = Ward(SMALL_WORLD, CLAIMS)
        ward.drop_claim(0)
        ward.undo()
        ward.drop_claim(1)
        ward.drop_claim(1)
        ward.undo()
        self.assertEqual(ward.claims, (CLAIMS[0], CLAIMS[2]))
        ward.set_good(())
        ward.undo()
        ward.undo()
        self.assertEqual(state_of(ward), (shape(SMALL_WORLD), CLAIMS, 3))

    def test_failed_edits_are_none(self):
        ward = Ward(SMALL_WORLD, CLAIMS)
        ward.set_good(("ann",))
        self.assert_raises(ward, BadWorld, "set_good", ("bob", "ann"))
        self.assert_raises(ward, UnknownName, "drop_claim", 9)
        self.assert_raises(ward, BadClaim, "add_claim", None)
        ward.undo()
        self.assertEqual(ward.world.good, ("ann", "bob"))
        self.assert_raises(ward, UnknownName, "undo")

    def test_verdicts_as_they_were_before_the_edit(self):
        ward = Ward(SMALL_WORLD, CLAIMS)
        first = ward.verdict(0)
        ward.add_role(ASK)
        self.assertEqual(ward.verdict(0)[2], "kept")
        self.assertEqual(ward.verdict(1)[2], "judged")
        ward.undo()
        # What was asked for since is lost.
        self.assertEqual(ward.verdict(0), (*first[:2], "kept"))
        self.assertEqual(ward.verdict(1)[2], "judged")

    def test_an_older_verdict_comes_back(self):
        ward = Ward(SMALL_WORLD, (LOST,))
        run = ward.verdict(0)[1]
        ward.change_step("show", 0, ("digest", N))
        paper = ward.verdict(0)[1]
        ward.add_role(ASK)
        self.assertEqual(ward.verdict(0), ("paper", paper, "kept"))
        ward.undo()
        self.assertEqual(ward.verdict(0), ("paper", paper, "kept"))
        ward.undo()
        self.assertEqual(ward.verdict(0), ("run", run, "kept"))

    def test_verdicts_of_dropped_claims_come_back(self):
        ward = Ward(SMALL_WORLD, CLAIMS)
        first = [ward.verdict(number) for number in (0, 2)]
        ward.drop_claim(0)
        ward.undo()
        self.assertEqual([ward.verdict(number) for number in (0, 2)], [(*one[:2], "kept") for one in first])
        self.assertEqual(ward.verdict(1)[2], "judged")
        ward.add_claim(LOST)
        ward.verdict(3)
        ward.undo()
        ward.add_claim(LOST)
        self.assertEqual(ward.verdict(3)[2], "judged")


class Model:
    """A ward in the plainest way: a list of states, each with the world, the claims and the last verdicts."""

    def __init__(self, where, claims):
        self.states = [(where, claims, (None,) * len(claims))]

    def do(self, method, args):
        where, claims, verdicts = self.states[-1]
        roles, sessions, good = shape(where)
        if method == "undo":
            if len(self.states) == 1:
                raise UnknownName()
            self.states.pop()
            return
        if method in ("change_step", "add_step", "drop_step", "drop_role"):
            if args[0] not in [one[0] for one in roles]:
                raise UnknownName()
            at = [one[0] for one in roles].index(args[0])
            name, capitals, steps = roles[at]
            steps = list(steps)
            if method != "drop_role":
                if args[1] not in range(len(steps) + (method == "add_step")):
                    raise UnknownName()
                if method == "change_step":
                    steps[args[1]] = (steps[args[1]][0], args[2])
                elif method == "add_step":
                    steps.insert(args[1], args[2])
                else:
                    del steps[args[1]]
            roles = roles[:at] + (() if method == "drop_role" else ((name, capitals, tuple(steps)),)) + roles[at + 1:]
        elif method == "add_role":
            roles += args
        elif method == "add_session":
            sessions += args
        elif method == "set_good":
            good = args[0]
        elif method == "add_claim":
            claims, verdicts = claims + args, verdicts + (None,)
        elif method == "drop_claim":
            if args[0] not in range(len(claims)):
                raise UnknownName()
            claims, verdicts = [tuple(item for at, item in enumerate(items) if at != args[0]) for items in (claims, verdicts)]
        elif method == "drop_session":
            if not sessions:
                raise UnknownName()
            sessions = sessions[:-1]
        changed = World(roles, sessions, good)
        for claim in claims:
            check_claim(changed, claim)
        self.states.append((changed, claims, verdicts))

    def verdict(self, number):
        where, claims, verdicts = self.states[-1]
        if number not in range(len(claims)):
            raise UnknownName()
        last = verdicts[number]
        if last is not None:
            try:
                if (broken if last[0] == "run" else check)(where, claims[number], last[1]):
                    return (*last, "kept")
            except (BadMove, TooLarge):
                pass
        found = judge(where, claims[number], limit=500)
        self.states[-1] = (where, claims, verdicts[:number] + (found,) + verdicts[number + 1:])
        return (*found, "judged")


def edit_by_chance(chance, where):
    """An edit that may be possible or not."""
    names = [one[0] for one in where.roles] + ["none"]
    term = chance_worlds.role_term(chance, 2)
    step = (chance.choice(("send", "take")), term)
    method = chance.choice(("add_role", "drop_role", "change_step", "change_step", "change_step", "add_step", "drop_step", "add_session", "drop_session",
                            "set_good", "add_claim", "add_claim", "drop_claim", "undo", "undo"))
    args = {
        "add_role": (chance_worlds.role(chance, chance.choice("rtuv"), 2, 2),), "drop_role": (chance.choice(names),),
        "change_step": (chance.choice(names), chance.randint(-1, 2), term), "add_step": (chance.choice(names), chance.randint(-1, 3), step),
        "drop_step": (chance.choice(names), chance.randint(-1, 2)), "add_session": ((chance.choice(names), ("ann", chance.choice(("bob", "mal")))),),
        "set_good": (chance.choice(((), ("ann",), ("ann", "bob"), ("bob", "ann"))),), "drop_claim": (chance.randint(-1, 2),),
        "add_claim": (chance_worlds.any_claim(chance, where) if where.sessions else None,),
    }
    return method, args.get(method, ())


class AsTheModel(WardTests):
    def outcome(self, function, *args):
        try:
            return function(*args)
        except MuffError as error:
            return (error.__class__, sorted(vars(error).items()))

    def test_by_chance(self):
        chance = random.Random(131)
        seen, origins = {}, {}
        for _ in range(90):
            where = chance_worlds.world(chance, 2, 2, 2)
            ward, model = Ward(where, (), 500), Model(where, ())
            for _ in range(40):
                if chance.random() < 0.3:
                    number = chance.randint(-1, len(ward))
                    found = self.outcome(ward.verdict, number)
                    self.assertEqual(found, self.outcome(model.verdict, number))
                    origins[found[-1] if len(found) == 3 else found[0]] = origins.get(found[-1] if len(found) == 3 else found[0], 0) + 1
                    if len(found) == 3:
                        self.assertEqual(found[0], judge(ward.world, ward.claims[number])[0])
                else:
                    method, args = edit_by_chance(chance, ward.world)
                    found = self.outcome(getattr(ward, method), *args)
                    self.assertEqual(found, self.outcome(model.do, method, args), (method, args))
                    seen[method, found and found[0]] = seen.get((method, found and found[0]), 0) + 1
                where, claims, _ = model.states[-1]
                self.assertEqual(state_of(ward), (shape(where), claims, len(claims)))
        self.assertGreater(origins["kept"], 20)
        self.assertGreater(origins["judged"], 20)
        for method in ("add_role", "change_step", "add_step", "drop_step", "add_session", "drop_session", "set_good", "add_claim", "drop_claim", "undo"):
            self.assertGreater(seen[method, None], 5)


if __name__ == "__main__":
    unittest.main()
