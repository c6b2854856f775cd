"""Points [17] and [18]: sessions and worlds."""

import itertools
import unittest

from muffline.errors import BadRole, BadWorld, MuffError
from muffline.notation import read_role_term as read
from muffline.worlds import World
from tests import samples

AB = ("A", "B")
N = ("mark", "n")


def steps_of(*texts):
    return tuple((text[:4], read(text[5:])) for text in texts)


ALICE = ("alice", AB, steps_of("send (lock (mark n) (both B A))", "take (box (pair (var x) (mark n)) A)", "send (var x)"))
BOB = ("bob", ("B", "A"), steps_of("take (lock (var y) (both A B))", "send (stamp (var y) B)"))
IDLE = ("idle", ("A",), ())
LONG = ("long", ("A",), (("send", N),) * 6)
BAD = ("bad", ("A",), steps_of("send (mark n)", "send (own B)"))
WRONG = ("alice", "A", ())


def error_of(roles, sessions, good):
    """What is raised: None, "world", or (role, step)."""
    try:
        World(roles, sessions, good)
    except BadWorld as wrong:
        assert wrong.__class__ is BadWorld
        return "world"
    except BadRole as wrong:
        return (wrong.role, wrong.step)
    return None


class Attributes(unittest.TestCase):
    def test_plain(self):
        roles, sessions, good = (ALICE, BOB), (("alice", ("zed", "bob")), ("bob", ("bob", "zed"))), ("bob", "zed")
        world = World(roles, sessions, good)
        self.assertEqual((world.roles, world.sessions, world.good), (roles, sessions, good))
        self.assertEqual(world.total_steps(), 5)
        self.assertEqual((world.role_of(0), world.role_of(1)), (ALICE, BOB))
        world = World(roles=roles, sessions=sessions, good=good)
        self.assertEqual(world.steps_of(session=1), world.steps_of(1))
        self.assertEqual(world.role_of(session=1), BOB)

    def test_steps(self):
        world = World((ALICE, BOB), (("alice", ("zed", "bob")), ("bob", ("bob", "zed")), ("alice", ("ann", "mal"))), ())
        key = ("both", "bob", "zed")
        self.assertEqual(world.steps_of(0), (
            ("send", ("lock", ("mark", 0, "n"), key)),
            ("take", ("box", ("pair", ("var", 0, "x"), ("mark", 0, "n")), "zed")),
            ("send", ("var", 0, "x")),
        ))
        self.assertEqual(world.steps_of(1), (
            ("take", ("lock", ("var", 1, "y"), key)), ("send", ("stamp", ("var", 1, "y"), "bob")),
        ))
        self.assertEqual(world.steps_of(2)[0], ("send", ("lock", ("mark", 2, "n"), ("both", "ann", "mal"))))
        self.assertEqual(world.steps_of(2)[1][1][2], "ann")
        self.assertEqual(world.steps_of(2)[2], ("send", ("var", 2, "x")))

    def test_one_host_for_all(self):
        world = World((ALICE,), (("alice", ("ann", "ann")),), ("ann",))
        self.assertEqual(world.steps_of(0)[0], ("send", ("lock", ("mark", 0, "n"), ("both", "ann", "ann"))))

    def test_total_steps(self):
        for many in range(5):
            world = World((ALICE, IDLE), (("alice", ("ann", "bob")),) * many, ())
            self.assertEqual(world.total_steps(), 3 * many)
        self.assertEqual(World((IDLE,), (("idle", ("ann",)),) * 4, ()).total_steps(), 0)
        self.assertEqual(World((IDLE,), (("idle", ("ann",)),), ()).steps_of(0), ())

    def test_nothing_at_all(self):
        world = World((), (), ())
        self.assertEqual((world.roles, world.sessions, world.good, world.total_steps()), ((), (), (), 0))
        self.assertEqual(World((ALICE,), (), ("ann",)).total_steps(), 0)
        self.assertEqual(error_of((), (("alice", ("ann", "bob")),), ()), "world")

    def test_defined_in_the_class(self):
        for name in ("__init__", "steps_of", "role_of", "total_steps"):
            self.assertIn(name, World.__dict__)


class Errors(unittest.TestCase):
    good_sessions = (("alice", ("ann", "bob")),)

    def test_roles_is_no_tuple(self):
        for roles in (None, 0, "", "alice"):
            self.assertEqual(error_of(roles, None, None), "world")
            self.assertEqual(error_of(roles, (), ()), "world")

    def test_the_first_bad_role(self):
        for role, step in ((BAD, 1), (WRONG, -1), (None, -1), (("x", AB, (None,)), 0), (0, -1), ((), -1),
                           (("x", AB, (("send", N),) * 7), -1), (("x", AB, steps_of("take (var x)", "take (digest (var y))")), 1)):
            for at in range(4):
                roles = (ALICE,) * at + (role,) + (BAD,) * (3 - at)
                self.assertEqual(error_of(roles, self.good_sessions, ("ann",)), (at, step), roles)

    def test_bad_roles_come_first(self):
        for sessions, good in ((None, None), ((None,), ()), ((("nobody", ()),), ()), ((), ("b", "a")), ((), None),
                               ((("alice", ("ann", "bob")),) * 5, ())):
            self.assertEqual(error_of((ALICE, BAD), sessions, good), (1, 1))
            self.assertEqual(error_of((ALICE, ALICE, WRONG), sessions, good), (2, -1))
        self.assertEqual(error_of((IDLE, BOB, ALICE, LONG, BAD), (), ()), (4, 1))

    def test_sessions_is_no_tuple(self):
        for sessions in (None, 0, "", "alice"):
            self.assertEqual(error_of((ALICE,), sessions, ()), "world")

    def test_no_sessions(self):
        for session in (None, 0, "alice", (), ("alice",), ("alice", ("ann", "bob"), ()), ("alice", "ann", "bob"), ("alice", None),
                        ("alice", "ab"), ("alice", 2), (("ann", "bob"), "alice"), (None, ("ann", "bob")), (0, ("ann", "bob")),
                        (("alice",), ("ann", "bob")), ("", ("ann", "bob")), (("ann", "bob"),), (ALICE, ("ann", "bob"))):
            for sessions in ((session,), self.good_sessions + (session,), (session,) + self.good_sessions):
                self.assertEqual(error_of((ALICE,), sessions, ()), "world", session)

    def test_unknown_roles(self):
        for name in ("bob", "alicE", "alic", "alicee", "A"):
            self.assertEqual(error_of((ALICE,), ((name, ("ann", "bob")),), ()), "world")
        self.assertIsNone(error_of((ALICE, BOB), (("bob", ("ann", "bob")),), ()))

    def test_numbers_of_hosts(self):
        for many in range(6):
            expected = None if many == 2 else "world"
            self.assertEqual(error_of((ALICE,), (("alice", ("ann",) * many),), ()), expected)
            expected = None if many == 1 else "world"
            self.assertEqual(error_of((ALICE, IDLE), (("idle", ("ann",) * many),), ()), expected)

    def test_hosts_that_are_no_names(self):
        for name in samples.BAD_NAMES:
            self.assertEqual(error_of((ALICE,), (("alice", ("ann", name)),), ()), "world", name)
            self.assertEqual(error_of((ALICE,), (("alice", (name, "ann")),), ()), "world", name)

    def test_number_of_roles(self):
        roles = tuple((name, ("A",), ()) for name in "abcdef")
        for many in range(7):
            self.assertEqual(error_of(roles[:many], (), ()), None if many <= 4 else "world")

    def test_number_of_sessions(self):
        for many in range(7):
            self.assertEqual(error_of((IDLE,), (("idle", ("ann",)),) * many, ()), None if many <= 4 else "world")

    def test_number_of_steps(self):
        three = ("three", ("A",), (("send", N),) * 3)
        four = ("four", ("A",), (("send", N),) * 4)
        for names, expected in ((("long", "long"), None), (("long", "long", "idle"), None), (("long", "three", "three"), None),
                                (("three",) * 4, None), (("long", "three", "four"), "world"), (("four",) * 3, None),
                                (("four", "four", "four", "three"), "world"), (("long", "long", "three"), "world"),
                                (("three", "three", "three", "four"), "world"), (("long",) * 3, "world")):
            sessions = tuple((name, ("ann",)) for name in names)
            self.assertEqual(error_of((LONG, three, four, IDLE), sessions, ()), expected, names)

    def test_two_roles_of_one_name(self):
        for pair in itertools.permutations((ALICE, ("alice", ("A",), ()))):
            self.assertEqual(error_of(pair, (), ()), "world")
        self.assertEqual(error_of((ALICE, BOB, ALICE), (), ()), "world")
        self.assertIsNone(error_of((ALICE, BOB, ("alicia", AB, ALICE[2])), (), ()))

    def test_good(self):
        for good in ((), ("ann",), ("ann", "bob", "zed"), ("a", "aa", "ab", "b"), tuple("abcdefghij")):
            self.assertIsNone(error_of((ALICE,), self.good_sessions, good), good)
        for good in (None, 0, "ann", "", ("bob", "ann"), ("ann", "ann"), ("ann", "bob", "bob"), ("a", "c", "b"), ("b", "aa"), (None,),
                     ("ann", 5), (("ann",),), ("Ann",), ("",), ("ann", "ninechars"), ("A",)):
            self.assertEqual(error_of((ALICE,), self.good_sessions, good), "world", good)
        for name in samples.BAD_NAMES:
            self.assertEqual(error_of((), (), (name,)), "world", name)

    def test_errors_of_the_program(self):
        with self.assertRaises(MuffError):
            World(None, (), ())


class General(unittest.TestCase):
    def test_equal_worlds_give_equal_results(self):
        one, other = (World((ALICE, BOB), (("bob", ("ann", "bob")),), ("ann",)) for _ in range(2))
        self.assertEqual(one.steps_of(0), other.steps_of(0))

    def test_nothing_changes(self):
        world = World((ALICE, BOB), (("bob", ("ann", "bob")),), ("ann",))
        before = (world.roles, world.sessions, world.good)
        world.steps_of(0)
        world.role_of(0)
        world.total_steps()
        self.assertEqual((world.roles, world.sessions, world.good), before)


if __name__ == "__main__":
    unittest.main()
