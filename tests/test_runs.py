"""Points [19] and [20]: runs, and runs that are tidy."""

import itertools
import random
import unittest

from muffline.errors import BadMove, TooLarge
from muffline.runs import is_tidy, replay, schedule_of, tidy
from muffline.terms import in_order, is_too_large, levels_of, size
from tests import plain_worlds, samples
from tests.worlds import ANSWER, ASK, ECHO, GET, GIVE, IDLE, KEYS, SHOW, role, world

HI, HO = ("word", "hi"), ("word", "ho")
FREE = ("free", HI)


def letter(at):
    return ("letter", at)


PAIR = world((ASK, ANSWER), "ask ann bob", "answer bob ann")
FULL = ((0, None), (1, letter(0)), (1, None), (0, letter(1)), (0, None), (1, letter(2)))
ATTACKED = world((ASK, ANSWER), "ask ann mal", "answer bob ann")
MAL = ("free", ("own", "mal"))
ATTACK = (
    (0, None), (1, ("box", ("unbox", letter(0), MAL, "mal"), "bob")), (1, None), (0, letter(1)), (0, None),
    (1, ("box", ("unbox", letter(2), MAL, "mal"), "bob")),
)
VALUES_OF_ANY_FORM = (
    0, -1, "", "letter", (), ((),), ("letter",), ("letter", "0"), ("letter", None), ("letter", 0, 0), ("letter", -1), ("free",),
    ("free", None), ("free", HI, HI), ("free", ("var", 0, "x")), ("free", ("mark", 0, "n")), ("free", ("word", "Hi")),
    ("free", ("own", "ann")), ("digest", None), ("pair", FREE), ("box", FREE, "Bob"), ("box", FREE, None), ("stamp", FREE, FREE, "A"),
    ("unstamp", letter(0), 5), ("unlock", letter(0)), ("unbox", letter(0), FREE, ""), HI, ("host", "ann"), ("send", FREE), (None,),
    ("letter", 1), ("letter", 99), ("letter", 1000000), ("left", letter(0)), ((letter(0),),),
)


class RunTests(unittest.TestCase):
    def assert_bad(self, where, run, at):
        for function in (replay, tidy, is_tidy):
            with self.assertRaises(BadMove) as caught:
                function(where, run)
            self.assertEqual(caught.exception.at, at, run)

    def assert_too_large(self, where, run):
        for function in (replay, tidy, is_tidy):
            with self.assertRaises(TooLarge):
                function(where, run)


class Replay(RunTests):
    def test_nothing(self):
        self.assertEqual(replay(PAIR, ()), ((0, 0), (), ()))
        self.assertEqual(replay(world(()), ()), ((), (), ()))

    def test_each_beginning(self):
        n, m = ("mark", 0, "n"), ("mark", 1, "m")
        row = (("box", ("pair", n, ("host", "ann")), "bob"), ("box", ("pair", n, m), "ann"), ("box", m, "bob"))
        y, x = (("var", 1, "y"), n), (("var", 0, "x"), m)
        for many, expected in enumerate((
            ((0, 0), (), ()), ((1, 0), (), row[:1]), ((1, 1), (y,), row[:1]), ((1, 2), (y,), row[:2]),
            ((2, 2), (x, y), row[:2]), ((3, 2), (x, y), row), ((3, 3), (x, y), row),
        )):
            self.assertEqual(replay(PAIR, FULL[:many]), expected)
        self.assertEqual(replay(world=PAIR, run=FULL)[0], (3, 3))

    def test_a_run_with_work_of_the_road(self):
        done, bindings, row = replay(ATTACKED, ATTACK)
        self.assertEqual(done, (3, 3))
        self.assertEqual(bindings, ((("var", 0, "x"), ("mark", 1, "m")), (("var", 1, "y"), ("mark", 0, "n"))))
        self.assertEqual(row[2], ("box", ("mark", 1, "m"), "mal"))

    def test_the_bindings_of_all_sessions_ascend(self):
        where = world((role("r", "take (pair (var y) (pair (var aa) (var a)))", "take (var x)", parameters=("A",)),),
                      "r ann", "r ann", "r bob")
        three = ("pair", FREE, ("pair", ("free", HO), FREE))
        done, bindings, row = replay(where, ((2, three), (0, three), (2, FREE), (1, three), (0, ("free", HO))))
        self.assertEqual((done, row), ((2, 1, 2), ()))
        names = [(session, name) for session in (0, 1, 2) for name in ("a", "aa", "x", "y") if (session, name) != (1, "x")]
        self.assertEqual([variable for variable, _ in bindings], [("var", session, name) for session, name in names])
        self.assertEqual(dict(bindings)[("var", 0, "x")], HO)
        self.assertEqual(dict(bindings)[("var", 2, "x")], HI)

    def test_bindings_go_on(self):
        where = world((role("r", "take (var x)", "take (pair (var x) (var y))", "send (pair (var y) (var x))", parameters=("A",)),), "r ann")
        run = ((0, FREE), (0, ("pair", FREE, ("free", HO))), (0, None))
        self.assertEqual(replay(where, run)[2], (("pair", HO, HI),))
        self.assert_bad(where, (run[0], (0, ("pair", ("free", HO), FREE)), run[2]), 1)

    def test_sessions_that_do_not_exist(self):
        for session in (-1, -2, 2, 3, 99):
            for many in range(len(FULL) + 1):
                for recipe in (None, letter(0), FREE):
                    self.assert_bad(PAIR, FULL[:many] + ((session, recipe),), many)
        self.assert_bad(world(()), ((0, None),), 0)

    def test_sessions_that_have_ended(self):
        for session in (0, 1):
            for recipe in (None, letter(0)):
                self.assert_bad(PAIR, FULL + ((session, recipe),), 6)
        self.assert_bad(world((IDLE,), "idle ann"), ((0, None),), 0)
        self.assert_bad(PAIR, FULL[:5] + ((0, None),) + FULL[5:], 5)

    def test_a_send_with_a_recipe(self):
        for recipe in (letter(0), FREE) + VALUES_OF_ANY_FORM:
            self.assert_bad(PAIR, ((0, recipe),), 0)
            self.assert_bad(PAIR, FULL[:2] + ((1, recipe),), 2)

    def test_a_take_without_a_recipe(self):
        self.assert_bad(PAIR, ((1, None),), 0)
        self.assert_bad(PAIR, FULL[:1] + ((1, None),), 1)
        self.assert_bad(PAIR, FULL[:3] + ((0, None),) + FULL[4:], 3)

    def test_recipes_that_fail(self):
        for recipe in VALUES_OF_ANY_FORM:
            self.assert_bad(PAIR, FULL[:1] + ((1, recipe),) + FULL[2:], 1)
            self.assert_bad(PAIR, FULL[:1] + ((1, ("pair", letter(0), recipe)),) + FULL[2:], 1)
            self.assert_bad(world((ECHO,), "echo ann"), ((0, ("digest", recipe)),), 0)
        self.assert_bad(PAIR, ((0, None), (1, letter(1))), 1)
        self.assert_bad(PAIR, ((0, None), (1, ("box", ("unbox", letter(0), ("free", ("own", "bob")), "bob"), "bob"))), 1)

    def test_values_that_do_not_match(self):
        for recipe in (FREE, ("box", FREE, "bob"), ("box", ("pair", FREE, ("free", ("host", "bob"))), "bob"),
                       ("box", ("pair", FREE, ("free", ("host", "ann"))), "ann"), ("digest", letter(0)), ("pair", letter(0), letter(0))):
            self.assert_bad(PAIR, ((0, None), (1, recipe)), 1)
        self.assert_bad(PAIR, FULL[:3] + ((0, letter(0)),), 3)
        good = ("box", ("pair", FREE, ("free", ("host", "ann"))), "bob")
        self.assertEqual(replay(PAIR, ((0, None), (1, good)))[1], ((("var", 1, "y"), HI),))

    def test_the_first_impossible_move_counts(self):
        self.assert_bad(PAIR, ((0, None), (0, None), (7, None)), 1)
        self.assert_bad(PAIR, ((1, letter(0)), (0, letter(0))), 0)
        for many in range(6):
            self.assert_bad(PAIR, FULL[:many] + ((5, None), (6, None)) + FULL[many:], many)

    def test_letters_are_numbered_by_sends_alone(self):
        where = world((ECHO, SHOW), "echo ann", "show bob", "echo bob")
        run = ((0, FREE), (1, None), (0, None), (2, ("pair", letter(0), letter(1))), (2, None))
        mark = ("mark", 1, "n")
        self.assertEqual(replay(where, run)[2], (mark, ("digest", HI), ("digest", ("pair", mark, ("digest", HI)))))
        self.assert_bad(where, run[:3] + ((2, letter(2)),), 3)


def digests(recipe, many):
    return samples.deep(recipe, many, (samples.WRAPS[4],))


def of_size(leaf, count):
    """A pair term or a pair recipe with count nodes, where the leaf counts as one; few levels."""
    if count == 1:
        return leaf
    if count % 2 == 0:
        return ("digest", of_size(leaf, count - 1))
    half = (count - 1) // 2
    half -= half % 2 == 0 and half != count - 1 - half
    return ("pair", of_size(leaf, half), of_size(leaf, count - 1 - half))


class Bounds(RunTests):
    ONE = world((role("r", "send (word hi)", "send (digest (word hi))", "take (var x)", "send (digest (var x))",
                      "send (pair (digest (var x)) (var x))", parameters=("A",)),), "r ann")
    TWO = ((0, None), (0, None))

    def test_helper(self):
        for count in (1, 2, 3, 4, 5, 998, 999, 1000, 1999, 2000):
            self.assertEqual(size(of_size(HI, count)), count)
            self.assertLess(levels_of(of_size(HI, count)), 30)

    def test_size_of_a_taken_letter(self):
        for more in (1998, 1999, 2000):
            run = self.TWO + ((0, of_size(letter(0), more)),)
            self.assertEqual(size(replay(self.ONE, run)[1][0][1]), more)
            self.assertEqual(tidy(self.ONE, run), run)
            self.assertIs(is_tidy(self.ONE, run), True)
        self.assert_too_large(self.ONE, self.TWO + ((0, ("pair", letter(0), of_size(letter(0), 1999))),))
        self.assert_too_large(self.ONE, self.TWO + ((0, ("pair", letter(1), of_size(letter(0), 1998))),))
        self.assert_too_large(self.ONE, self.TWO + ((0, of_size(letter(1), 1900)),))

    def test_size_of_a_sent_letter(self):
        run = self.TWO + ((0, of_size(letter(0), 1999)), (0, None))
        self.assertEqual(size(replay(self.ONE, run)[2][2]), 2000)
        self.assert_too_large(self.ONE, self.TWO + ((0, of_size(letter(0), 2000)), (0, None)))
        run = self.TWO + ((0, of_size(letter(0), 999)), (0, None), (0, None))
        self.assertEqual(size(replay(self.ONE, run)[2][3]), 2000)
        self.assert_too_large(self.ONE, self.TWO + ((0, of_size(letter(0), 1000)), (0, None), (0, None)))

    def test_levels_of_a_taken_letter(self):
        run = self.TWO + ((0, digests(letter(0), 199)),)
        self.assertEqual(levels_of(replay(self.ONE, run)[1][0][1]), 200)
        self.assert_too_large(self.ONE, self.TWO + ((0, digests(letter(1), 199)),))
        run = self.TWO + ((0, digests(letter(1), 198)),)
        self.assertEqual(levels_of(replay(self.ONE, run)[1][0][1]), 200)

    def test_levels_of_a_sent_letter(self):
        run = self.TWO + ((0, digests(letter(0), 198)), (0, None))
        self.assertEqual(levels_of(replay(self.ONE, run)[2][2]), 200)
        self.assert_too_large(self.ONE, self.TWO + ((0, digests(letter(0), 199)), (0, None)))
        run = self.TWO + ((0, digests(letter(0), 197)), (0, None), (0, None))
        self.assertEqual(levels_of(replay(self.ONE, run)[2][3]), 200)
        self.assert_too_large(self.ONE, self.TWO + ((0, digests(letter(0), 198)), (0, None), (0, None)))

    def test_too_large_and_not_matching(self):
        where = world((role("r", "send (digest (word hi))", "take (pair (var x) (word ho))", parameters=("A",)),), "r ann")
        large = of_size(letter(0), 1900)
        self.assert_bad(where, ((0, None), (0, large)), 1)
        self.assert_bad(where, ((0, None), (0, digests(letter(0), 199))), 1)
        self.assert_bad(where, ((0, None), (0, ("pair", ("free", HO), large))), 1)
        self.assert_too_large(where, ((0, None), (0, ("pair", large, ("free", HO)))))

    def test_what_follows_is_not_looked_at(self):
        large = self.TWO + ((0, of_size(letter(1), 1900)),)
        for rest in (((0, None),), ((9, None),), ((0, 5),), large):
            self.assert_too_large(self.ONE, large + rest)
        self.assert_bad(self.ONE, self.TWO[:1] + ((3, None),) + large[1:], 1)
        self.assert_bad(self.ONE, self.TWO + ((0, letter(2)),) + large[2:], 2)

    def test_values_within_recipes_may_be_larger(self):
        run = self.TWO + ((0, ("left", ("pair", letter(0), of_size(letter(1), 1900)))),)
        self.assertEqual(replay(self.ONE, run)[1][0][1], HI)

    def test_large_letters_count_as_large(self):
        self.assertIs(is_too_large(of_size(HI, 2000)), False)
        self.assertIs(is_too_large(of_size(HI, 2001)), True)
        self.assertIs(is_too_large(digests(HI, 199)), False)
        self.assertIs(is_too_large(digests(HI, 200)), True)
        self.assertIs(is_too_large(samples.doubled(HI, 2000)), True)
        # Here the deepest level has one term alone.
        self.assertIs(is_too_large(("pair", of_size(HI, 1900), digests(HI, 98))), False)
        self.assertIs(is_too_large(("pair", of_size(HI, 1900), digests(HI, 99))), True)


class Schedules(unittest.TestCase):
    def test_schedules(self):
        self.assertEqual(schedule_of(()), ())
        self.assertEqual(schedule_of(FULL), (0, 1, 1, 0, 0, 1))
        self.assertEqual(schedule_of(run=((3, None), (-1, FREE), (3, 5))), (3, -1, 3))


def run_by_chance(chance, where, most):
    """A run of a world, with letters that match, and its end where nothing goes on."""
    run = ()
    for _ in range(most):
        done, bindings, row = plain_worlds.replay(where, run)
        moves = []
        for session in range(len(where.sessions)):
            steps = plain_worlds.steps_of(where, session)
            if done[session] < len(steps):
                word, term = steps[done[session]]
                moves += [(session, recipe) for recipe in ([None] if word == "send" else recipes_by_chance(chance, row, 8))]
        chance.shuffle(moves)
        for move in moves:
            try:
                plain_worlds.replay(where, run + (move,))
            except plain_worlds.Impossible:
                continue
            run += (move,)
            break
    return run


def recipes_by_chance(chance, row, many):
    leaves = [letter(at) for at in range(len(row))] + [FREE, ("free", HO)]
    found = list(leaves)
    for _ in range(many):
        one, other = chance.choice(found), chance.choice(found)
        found.append(chance.choice((("pair", one, other), ("digest", one), ("left", one), ("unstamp", one, "ann"), ("unlock", one, other))))
    return found


CROWD = world((ECHO, SHOW, role("both", "send (mark a)", "take (pair (var x) (mark a))", "send (pair (var x) (mark b))", parameters=("A",))),
              "echo ann", "both bob", "show ann", "both ann")


class Tidy(unittest.TestCase):
    def test_nothing_to_do(self):
        for many in range(len(FULL) + 1):
            self.assertEqual(tidy(PAIR, FULL[:many]), FULL[:many])
            self.assertIs(is_tidy(PAIR, FULL[:many]), True)

    def test_two_sends(self):
        where = world((SHOW, ECHO), "show ann", "show bob", "echo ann")
        run = ((1, None), (0, None), (2, ("pair", letter(0), ("digest", letter(1)))), (2, None))
        self.assertIs(is_tidy(where, run), False)
        expected = ((0, None), (1, None), (2, ("pair", letter(1), ("digest", letter(0)))), (2, None))
        self.assertEqual(tidy(where, run), expected)
        self.assertIs(is_tidy(where, expected), True)
        self.assertEqual(replay(where, run)[1], replay(where, expected)[1])
        self.assertEqual(replay(where, run)[2][:2], replay(where, expected)[2][1::-1])

    def test_a_take_goes_ahead(self):
        where = world((ECHO,), "echo ann", "echo bob")
        run = ((1, FREE), (0, ("free", HO)))
        self.assertEqual(tidy(where, run), run[::-1])
        run = ((1, FREE), (0, ("free", HO)), (1, None), (0, None))
        self.assertEqual(tidy(where, run), ((0, ("free", HO)), (0, None), (1, FREE), (1, None)))

    def test_a_take_and_then_a_send(self):
        where = world((ECHO, SHOW), "show ann", "echo bob")
        self.assertEqual(tidy(where, ((1, FREE), (0, None))), ((0, None), (1, FREE)))
        self.assertEqual(tidy(where, ((0, None), (1, FREE))), ((0, None), (1, FREE)))

    def test_a_send_ahead_of_a_take_stays(self):
        where = world((ECHO, SHOW), "echo ann", "show bob")
        for recipe in (FREE, letter(0)):
            run = ((1, None), (0, recipe))
            self.assertEqual(tidy(where, run), run)
            self.assertIs(is_tidy(where, run), True)
        self.assertEqual(tidy(where, ((0, FREE), (1, None))), ((0, FREE), (1, None)))
        self.assertEqual(tidy(where, ((0, FREE), (1, None), (0, None))), ((0, FREE), (0, None), (1, None)))

    def test_moves_of_one_session_stay(self):
        where = world((KEYS,), "keys ann bob")
        run = ((0, None), (0, None))
        self.assertEqual(tidy(where, run), run)
        self.assertIs(is_tidy(where, run), True)

    def test_letters_within_recipes(self):
        where = world((SHOW, ECHO), "echo ann", "show ann", "show bob", "show ann")
        run = ((3, None), (2, None), (1, None),
               (0, ("pair", ("left", ("pair", letter(0), letter(1))), ("box", ("pair", letter(2), ("free", ("road", 2))), "letter"))))
        self.assertEqual(tidy(where, run), ((1, None), (2, None), (3, None), (
            0, ("pair", ("left", ("pair", letter(2), letter(1))), ("box", ("pair", letter(0), ("free", ("road", 2))), "letter")))))

    def test_names_like_letter(self):
        where = world((SHOW, ECHO), "echo ann", "show ann", "show bob")
        free = ("pair", ("free", ("host", "letter")), ("free", ("word", "letter")))
        run = ((2, None), (1, None), (0, ("pair", free, letter(0))))
        self.assertEqual(tidy(where, run), ((1, None), (2, None), (0, ("pair", free, letter(1)))))

    def test_the_same_from_every_order(self):
        chance = random.Random(61)
        lengths = 0
        for _ in range(150):
            run = run_by_chance(chance, CROWD, 8)
            expected = tidy(CROWD, run)
            ways = {run}
            pending = [run]
            while pending:
                one = pending.pop()
                places = plain_worlds.exchangeable(one)
                self.assertIs(is_tidy(CROWD, one), places == [])
                self.assertEqual(tidy(CROWD, one), expected)
                if not places:
                    self.assertEqual(one, expected)
                for at in places:
                    other = plain_worlds.exchange(one, at)
                    if other not in ways:
                        ways.add(other)
                        pending.append(other)
            self.assertEqual(min(schedule_of(one) for one in ways), schedule_of(expected))
            lengths += len(ways)
            done, bindings, row = replay(CROWD, run)
            after = replay(CROWD, expected)
            self.assertEqual((len(expected), after[0], after[1]), (len(run), done, bindings))
            self.assertEqual(in_order(after[2]), in_order(row))
        self.assertGreater(lengths, 800)

    def test_bad_moves(self):
        with self.assertRaises(BadMove) as caught:
            tidy(PAIR, FULL[:2] + ((5, None),))
        self.assertEqual(caught.exception.at, 2)
        with self.assertRaises(BadMove) as caught:
            is_tidy(world=PAIR, run=((1, None), (0, None)))
        self.assertEqual(caught.exception.at, 0)
        self.assertEqual(tidy(world=PAIR, run=FULL), FULL)


class ByChance(unittest.TestCase):
    def test_replay_is_as_plain(self):
        chance = random.Random(62)
        good = bad = 0
        for where in (PAIR, ATTACKED, CROWD, world((GIVE, GET, ECHO), "give ann bob", "get bob ann", "get bob mal", "echo ann")):
            for _ in range(120):
                run = run_by_chance(chance, where, 9)
                if run and chance.random() < 0.6:
                    at = chance.randrange(len(run))
                    session, recipe = run[at]
                    spoilt = chance.choice(((session, None), (session, letter(chance.randrange(4))), (chance.randrange(5), recipe)))
                    run = run[:at] + (spoilt,) + run[at + 1:]
                try:
                    expected = plain_worlds.replay(where, run)
                except plain_worlds.Impossible as wrong:
                    bad += 1
                    with self.assertRaises(BadMove) as caught:
                        replay(where, run)
                    self.assertEqual(caught.exception.at, wrong.args[0])
                else:
                    good += 1
                    self.assertEqual(replay(where, run), expected)
        self.assertGreater(min(good, bad), 80)


class General(unittest.TestCase):
    def test_order_of_all_schedules(self):
        where = world((SHOW,), "show ann", "show ann", "show ann")
        for order in itertools.permutations(range(3)):
            run = tuple((session, None) for session in order)
            self.assertEqual(schedule_of(tidy(where, run)), (0, 1, 2))
            self.assertIs(is_tidy(where, run), order == (0, 1, 2))


if __name__ == "__main__":
    unittest.main()
