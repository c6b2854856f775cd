"""Points [36] to [38]: joined worlds, worlds that fall into parts, and runs of one part alone."""

import itertools
import random
import string
import unittest

from muffline.claims import broken
from muffline.errors import BadJoin, BadMove, BadWorld, TooLarge
from muffline.joining import apart, join_worlds, project
from muffline.judge import judge
from muffline.recipes import recipe_for, recipe_size
from muffline.runs import replay, schedule_of
from muffline.worlds import World
from tests import chance_worlds, plain, plain_runs, plain_worlds
from tests.test_cases import N, X
from tests.test_judge import doubler
from tests.test_runs import HI, letter
from tests.worlds import ASK, ECHO, GET, GIVE, IDLE, SHOW, role, world


def shape(where):
    return (where.roles, where.sessions, where.good)


class Join(unittest.TestCase):
    def test_roles_sessions_and_good_hosts(self):
        first = world((ASK, ECHO), "ask ann bob", "echo ann", good=("ann", "bob"))
        second = world((GIVE, SHOW), "give zed mal", "show amy", good=("amy", "ann", "zed"))
        joined = join_worlds(first, second)
        self.assertIsInstance(joined, World)
        self.assertEqual(shape(joined), ((ASK, ECHO, GIVE, SHOW), first.sessions + second.sessions, ("amy", "ann", "bob", "zed")))
        self.assertEqual(shape(join_worlds(second, first)), ((GIVE, SHOW, ASK, ECHO), second.sessions + first.sessions, ("amy", "ann", "bob", "zed")))
        self.assertEqual(joined.steps_of(2), (("send", ("lock", ("mark", 2, "n"), ("both", "mal", "zed"))),))

    def test_equal_roles_once(self):
        first, second = world((ASK, ECHO, SHOW)), world((SHOW, GIVE, ASK), "show ann")
        self.assertEqual(shape(join_worlds(first, second)), ((ASK, ECHO, SHOW, GIVE), (("show", ("ann",)),), ("ann", "bob")))
        self.assertEqual(shape(join_worlds(second, first))[0], (SHOW, GIVE, ASK, ECHO))
        self.assertEqual(shape(join_worlds(first, first))[0], first.roles)
        four = world((ASK, ECHO, SHOW, GIVE))
        self.assertEqual(join_worlds(four, world((GIVE, SHOW, ECHO, ASK))).roles, four.roles)

    def test_worlds_without_anything(self):
        nothing, some = world((), good=()), world((ASK,), "ask ann bob", good=("zed",))
        self.assertEqual(shape(join_worlds(nothing, nothing)), ((), (), ()))
        self.assertEqual(shape(join_worlds(nothing, some)), shape(some))
        self.assertEqual(shape(join_worlds(some, nothing)), shape(some))

    def test_different_roles_of_one_name(self):
        for other in (role("ask"), role("ask", *["send (mark n)"]), ("ask", ("A", "C"), ()), (ASK[0], ASK[1], ASK[2][:2])):
            for first, second in ((ASK, other), (other, ASK)):
                with self.assertRaises(BadJoin):
                    join_worlds(world((ECHO, first)), world((second, ECHO)))

    def test_too_much(self):
        with self.assertRaises(BadWorld):
            join_worlds(world((ASK, ECHO, SHOW)), world((GIVE, GET)))
        with self.assertRaises(BadWorld):
            join_worlds(world((SHOW,), *["show ann"] * 3), world((SHOW,), *["show ann"] * 2))
        long = role("long", *["send (mark n)"] * 5, parameters=("A",))
        self.assertEqual(join_worlds(world((long,), "long ann"), world((long, SHOW), "long ann", "show ann", "show bob")).total_steps(), 12)
        with self.assertRaises(BadWorld):
            join_worlds(world((long,), "long ann", "long ann"), world((long,), "long ann"))

    def test_bad_joins_come_first(self):
        with self.assertRaises(BadJoin):
            join_worlds(world((ASK, ECHO, SHOW)), world((GIVE, GET, role("show", parameters=("A",)))))
        with self.assertRaises(BadJoin):
            join_worlds(world((SHOW,), *["show ann"] * 3), world((role("show", parameters=("A",)),), *["show ann"] * 3))

    def test_the_worlds_stay(self):
        first, second = world((ASK,), "ask ann bob"), world((SHOW,), "show ann", good=())
        before = (shape(first), shape(second))
        join_worlds(first=first, second=second)
        self.assertEqual((shape(first), shape(second)), before)


def apart_by_hand(where, many):
    """Whether the parts are apart, by comparing each session with each."""
    def named(at):
        name, hosts = where.sessions[at]
        terms = [term for one in where.roles if one[0] == name for _, term in one[2]]
        return set(hosts) | {host for term in terms for host in hosts_of(term)}

    for first, second in itertools.product(range(many), range(many, len(where.sessions))):
        if where.sessions[first][0] == where.sessions[second][0] or named(first) & named(second) & set(where.good):
            return False
    return True


def hosts_of(term):
    """The names and capitals that stand for hosts in a term."""
    if term[0] in ("host", "own", "both"):
        return list(term[1:])
    found = [term[2]] if term[0] in ("box", "stamp") else []
    return found + [host for item in term[1:] if isinstance(item, tuple) for host in hosts_of(item)]


class Apart(unittest.TestCase):
    def test_hosts_of_sessions(self):
        for first, second, expected in (("ann bob", "cat dan", True), ("ann bob", "bob cat", False), ("ann bob", "cat ann", False), ("ann mal", "mal bob", True),
                                        ("mal mal", "mal mal", True), ("ann ann", "bob bob", True), ("ann eve", "bob eve", True), ("ann mal", "mal ann", False)):
            where = world((GIVE, GET), "give " + first, "get " + second, good=("ann", "bob", "cat", "dan"))
            self.assertIs(apart(where, 1), expected, (first, second))
            self.assertIs(apart(where, 0), True)
            self.assertIs(apart(where, 2), True)

    def test_names_in_terms(self):
        for text, expected in (
            ("(host ann)", False), ("(box (mark n) ann)", False), ("(stamp (mark n) B)", True), ("(lock (mark n) (both A ann))", False),
            ("(lock (mark n) (both ann A))", False), ("(word ann)", True), ("(mark ann)", True), ("(host mal)", True), ("(host bob)", True), ("(host cat)", True),
            ("(digest (pair (word hi) (box (host ann) mal)))", False), ("(digest (pair (word ann) (box (host mal) mal)))", True), ("(box (box (word hi) mal) ann)", False),
        ):
            tell = role("tell", "send " + text.replace(" B)", " A)"), parameters=("A",))
            for word, parameter in (("tell bob", 1), ("tell mal", 1)):
                where = world((SHOW, tell), "show ann", word, good=("ann", "bob"))
                self.assertIs(apart(where, 1), expected, text)
                self.assertIs(apart_by_hand(where, 1), expected, text)
                where = world((SHOW, tell), word, "show ann", good=("ann", "bob"))
                self.assertIs(apart(where, 1), expected, text)
        # Only the names of roles that are used count.
        unused = role("unused", "send (host ann)", parameters=("A",))
        self.assertIs(apart(world((SHOW, unused, ECHO), "show ann", "echo bob"), 1), True)

    def test_names_in_taken_terms(self):
        take = role("took", "take (stamp (var x) ann)", "take (var ann)", parameters=("A",))
        self.assertIs(apart(world((take, SHOW), "took bob", "show ann"), 1), False)
        self.assertIs(apart(world((take, SHOW), "took bob", "show bob", good=("ann",)), 1), True)
        take = role("took", "take (var ann)", parameters=("A",))
        self.assertIs(apart(world((take, SHOW), "took bob", "show ann"), 1), True)

    def test_good_hosts_alone(self):
        where = ((GIVE, GET), "give ann bob", "get ann bob")
        self.assertIs(apart(world(*where, good=()), 1), True)
        self.assertIs(apart(world(*where, good=("cat",)), 1), True)
        self.assertIs(apart(world(*where, good=("ann",)), 1), False)

    def test_a_role_on_both_sides(self):
        self.assertIs(apart(world((SHOW,), "show ann", "show bob"), 1), False)
        self.assertIs(apart(world((SHOW,), "show mal", "show mal"), 1), False)
        self.assertIs(apart(world((IDLE,), "idle ann", "idle bob", good=()), 1), False)
        self.assertIs(apart(world((SHOW, ECHO), "show ann", "echo bob", "show mal"), 1), False)
        self.assertIs(apart(world((SHOW, ECHO), "show ann", "echo bob", "show mal"), 2), False)

    def test_each_number(self):
        where = world((SHOW, ECHO, IDLE), "show ann", "show cat", "echo bob", "idle bob", good=("ann", "bob", "cat"))
        self.assertEqual([apart(where, many) for many in range(5)], [True, False, True, False, True])
        self.assertIs(apart(world=where, many=2), True)
        self.assertIs(apart(world(()), 0), True)

    def test_by_chance(self):
        chance = random.Random(121)
        found = {}
        for _ in range(300):
            where = two_parts(chance)[0] if chance.random() < 0.5 else chance_worlds.world(chance, 2, 2, 3)
            for many in range(len(where.sessions) + 1):
                expected = apart_by_hand(where, many)
                self.assertIs(apart(where, many), expected)
                found[expected] = found.get(expected, 0) + 1
        self.assertGreater(min(found.values()), 100)


def two_parts(chance, most=2, depth=2):
    """A world of two parts that are apart, and the number of sessions of the first part."""
    first = chance_worlds.world(chance, most, depth, 2, ("r", "t"), ("ann", "ann", "mal"))
    second = chance_worlds.world(chance, most, depth, 2, ("u", "v"), ("bob", "bob", "mal"))
    if chance.random() < 0.5:
        first, second = second, first
    return join_worlds(first, second), len(first.sessions)


def run_by_chance(chance, where, most):
    """A run whose letters are put together from all that is there."""
    run = ()
    for _ in range(most):
        done, bindings, row = replay(where, run)
        sessions = [at for at in range(len(where.sessions)) if done[at] < len(where.steps_of(at))]
        if not sessions:
            break
        session = chance.choice(sessions)
        word, term = where.steps_of(session)[done[session]]
        if word == "send":
            run += ((session, None),)
            continue
        term = plain.apply(bindings, term)
        others = plain_runs.OTHERS + [("host", "bob"), ("both", "bob", "mal"), ("both", "ann", "mal"), ("digest", ("host", "bob"))]
        tables = plain_runs.bindings_by_trying(where.good, row, term, others)
        if tables:
            run += ((session, recipe_for(where.good, row, plain.apply(chance.choice(tables).items(), term))),)
    return run


def names_in(value):
    """The names in a role, a term or a recipe, without the words that tell the kind."""
    if isinstance(value, str):
        return [value] if value.islower() and value.isalpha() else []
    items = value[1:] if isinstance(value, tuple) and value and isinstance(value[0], str) else value
    return [name for item in items if isinstance(item, (tuple, str)) for name in names_in(item)] if isinstance(value, tuple) else []


def project_by_hand(where, many, run):
    """The projected run, from its letters."""
    _, bindings, row = plain_worlds.replay(where, run)
    used = set(where.good) | {name for one in where.roles for name in [one[0], *names_in(("role", *one[2]))]}
    used |= {name for session, hosts in where.sessions for name in (session, *hosts)}
    used |= {name for _, recipe in run if recipe is not None for name in names_in(recipe)}
    rest = {host for name, hosts in where.sessions[many:] for host in hosts}
    rest |= {host for name, _ in where.sessions[many:] for one in where.roles if one[0] == name for _, term in one[2] for host in hosts_of(term)}
    words = ("".join(letters) for count in (1, 2) for letters in itertools.product(string.ascii_lowercase, repeat=count))
    fresh = (word for word in words if word not in used)
    hosts = {host: next(fresh) for host in sorted(rest & set(where.good))}
    roads = [-1] + [part[1] for _, recipe in run if recipe is not None for part in plain.all_parts([recipe]) if part[0] == "road"]
    marks = [part for part in plain.all_parts([*row, *[term for _, term in bindings]]) if part[0] == "mark" and part[1] >= many]
    table = {mark: ("road", max(roads) + 1 + at) for at, mark in enumerate(sorted(marks, key=plain.rank))}

    def moved(term):
        if term in table:
            return table[term]
        if term[0] in ("host", "own"):
            return (term[0], hosts.get(term[1], term[1]))
        if term[0] == "both":
            return ("both", *sorted([hosts.get(host, host) for host in term[1:]]))
        items = [moved(item) if isinstance(item, tuple) else item for item in term]
        if term[0] in ("box", "stamp"):
            items[2] = hosts.get(items[2], items[2])
        return tuple(items)

    done, letters, moves = [0] * many, (), ()
    for session, recipe in run:
        if session < many:
            term = moved(plain.apply(bindings, plain_worlds.steps_of(where, session)[done[session]][1]))
            done[session] += 1
            if recipe is None:
                letters += (term,)
                moves += ((session, None),)
            else:
                moves += ((session, plain.least_by_trying(where.good, letters, term)[term]),)
    return moves


class Project(unittest.TestCase):
    def check(self, where, many, run, claims=()):
        projected = project(where, many, run)
        self.assertEqual(projected, project_by_hand(where, many, run))
        alone = World(where.roles, where.sessions[:many], where.good)
        self.assertEqual(schedule_of(projected), tuple(session for session, _ in run if session < many))
        replay(alone, projected)
        for claim in claims:
            if broken(where, claim, run):
                self.assertTrue(broken(alone, claim, projected), (claim, run))
        return projected

    def test_letters_of_the_rest(self):
        where = world((ECHO, SHOW), "echo ann", "show bob")
        run = ((1, None), (0, letter(0)), (0, None))
        self.assertEqual(self.check(where, 1, run), ((0, ("free", ("road", 0))), (0, None)))
        self.assertEqual(self.check(where, 2, run), ((1, None), (0, ("letter", 0)), (0, None)))
        self.assertEqual(self.check(where, 0, run), ())
        self.assertEqual(self.check(where, 1, ((1, None),)), ())

    def test_hosts_of_the_rest(self):
        tell = role("tell", "send (pair (host A) (box (word bob) A))", "send (stamp (pair (host B) (mark bob)) A)", "send (lock (word hi) (both A B))")
        take = role("took", "take (var x)", "take (var y)", "take (var z)", parameters=("A",))
        where = world((take, tell), "took ann", "tell bob cat", good=("ann", "bob", "cat"))
        run = ((1, None), (1, None), (1, None), (0, letter(0)), (0, letter(1)), (0, letter(2)))
        # The names of marks, words, variables and roles are not free for new names.
        self.assertEqual(self.check(where, 1, run), (
            (0, ("pair", ("free", ("host", "a")), ("box", ("free", ("word", "bob")), "a"))),
            (0, ("stamp", ("pair", ("free", ("host", "b")), ("free", ("road", 0))), ("free", ("own", "a")), "a")),
            (0, ("lock", ("free", ("word", "hi")), ("free", ("both", "a", "b")))),
        ))

    def test_the_names_of_both_are_put_in_order(self):
        take = role("took", "take (var x)", parameters=("A",))
        tell = role("tell", "send (lock (mark n) (both A B))")
        for hosts, key in (("bob mal", ("both", "a", "mal")), ("amy bob", ("both", "amy", "a")), ("mal zed", ("both", "a", "mal")), ("zed bob", ("both", "a", "b"))):
            where = world((take, tell), "took ann", "tell " + hosts, good=("ann", "bob", "zed"))
            (session, recipe), = self.check(where, 1, ((1, None), (0, letter(0))))
            self.assertEqual(recipe, ("lock", ("free", ("road", 0)), ("free", ("both", *sorted(key[1:])))))

    def test_new_names_occur_nowhere(self):
        tell = role("d", "send (box (host h) A)", "take (stamp (mark f) B)", parameters=("A", "B"))
        unused = role("i", "send (box (word j) k)", parameters=("A",))
        echo = role("c", "take (var g)", "take (var m)", "take (var o)", parameters=("A",))
        where = World((echo, tell, unused), (("c", ("b",)), ("d", ("zed", "e"))), ("a", "b", "yes", "zed"))
        # Good hosts are a and b, roles c, d and i, bad hosts e, h and k, a mark f, variables g, m and o, and a word j.
        run = ((1, None), (0, letter(0)), (0, ("free", HI)))
        self.assertEqual(self.check(where, 1, run)[0], (0, ("box", ("free", ("host", "h")), "l")))
        # What stands anywhere in a recipe is used, too, also in one of the rest or in one that comes later.
        for other in (("free", ("host", "l")), ("free", ("word", "l")), ("free", ("own", "l")), ("free", ("both", "ann", "l")), ("free", ("both", "l", "zed")),
                      ("box", ("free", HI), "l"), ("stamp", ("free", HI), ("free", ("own", "l")), "l"), ("left", ("pair", ("free", HI), ("free", ("host", "l")))),
                      ("unstamp", ("stamp", ("free", HI), ("free", ("own", "l")), "l"), "l")):
            projected = self.check(where, 1, ((1, None), (0, letter(0)), (0, other)))
            self.assertEqual(projected[0], (0, ("box", ("free", ("host", "h")), "n")))
        stamped = ("stamp", ("free", HI), ("free", ("own", "l")), "l")
        where = World((echo, ("d", ("A", "B"), (tell[2][0], ("take", ("var", "f")))), unused), where.sessions, where.good)
        projected = self.check(where, 1, ((1, None), (1, stamped), (0, letter(0))))
        self.assertEqual(projected[0], (0, ("box", ("free", ("host", "h")), "n")))

    def test_many_names(self):
        # All names of one letter are used, so the next ones have two.
        words = role("words", *["send " + self.words(part) for part in ("abcdefghijkl", "mnopqrstuvwxyz")], parameters=("A",))
        tell = role("tell", "send (box (host B) A)", "send (box (pair (word aa) (host A)) B)")
        take = role("took", "take (var a)", "take (var b)", parameters=("A",))
        where = world((take, tell, words), "took ann", "tell bob cat", good=("ann", "bob", "cat"))
        run = ((1, None), (1, None), (0, letter(0)), (0, letter(1)))
        self.assertEqual(self.check(where, 1, run), (
            (0, ("box", ("free", ("host", "ac")), "ab")), (0, ("box", ("pair", ("free", ("word", "aa")), ("free", ("host", "ab"))), "ac")),
        ))

    def words(self, letters):
        """A term with a word for each letter."""
        terms = ["(word " + one + ")" for one in letters]
        while len(terms) > 1:
            terms = ["(pair " + " ".join(terms[at:at + 2]) + ")" if at + 1 < len(terms) else terms[at] for at in range(0, len(terms), 2)]
        return terms[0]

    def test_new_road_marks(self):
        give = role("marks", "send (pair (mark n) (mark m))", "send (mark ab)", "send (mark a)", parameters=("A",))
        take = role("took", "take (var x)", "take (var y)", "take (var z)", parameters=("A",))
        other = role("others", "send (mark zz)", "take (var x)", parameters=("A",))
        where = world((take, give, other), "took ann", "marks bob", "others bob")
        sends = ((1, None), (1, None), (1, None), (2, None))
        every = ("pair", ("pair", letter(0), letter(1)), ("pair", letter(2), letter(3)))
        for recipe, least in ((("free", HI), 0), (("free", ("road", 0)), 1), (("pair", ("free", ("road", 41)), ("free", ("road", 7))), 42), (("free", ("road", 900000)), 900001)):
            # The order is a, ab, m, n of session 1, then zz of session 2.
            road = [("free", ("road", least + at)) for at in range(5)]
            expected = ("pair", ("pair", ("pair", road[3], road[2]), road[1]), ("pair", road[0], road[4]))
            projected = self.check(where, 1, (*sends, (0, recipe), (0, every)))
            self.assertEqual(projected[1], (0, expected))
            # The numbers in the recipes of the rest count, too.
            projected = self.check(where, 1, (*sends, (2, recipe), (0, every)))
            self.assertEqual(projected, ((0, expected),))

    def test_marks_that_do_not_occur(self):
        give = role("marks", "send (mark n)", "send (mark a)", parameters=("A",))
        take = role("took", "take (var x)", parameters=("A",))
        where = world((take, give), "took ann", "marks bob")
        self.assertEqual(self.check(where, 1, ((1, None), (0, letter(0)))), ((0, ("free", ("road", 0))),))
        self.assertEqual(self.check(where, 1, ((1, None), (1, None), (0, letter(0)))), ((0, ("free", ("road", 1))),))
        # A road mark that is only a part of a recipe, and of no letter, counts all the same.
        run = ((1, None), (0, ("left", ("pair", letter(0), ("free", ("road", 3))))))
        self.assertEqual(self.check(where, 1, run), ((0, ("free", ("road", 4))),))

    def test_least_recipes(self):
        show = role("show", "send (mark n)", "send (pair (mark n) (mark m))", parameters=("A",))
        where = world((show, ECHO, IDLE), "show ann", "echo ann", "idle bob")
        run = ((0, None), (0, None), (1, ("left", letter(1))), (1, None))
        self.assertEqual(self.check(where, 2, run), ((0, None), (0, None), (1, letter(0)), (1, None)))

    def test_terms_of_the_first_part_stay(self):
        where = world((GIVE, GET, ECHO), "give ann mal", "get ann mal", "echo bob")
        key = ("free", ("both", "ann", "mal"))
        run = ((0, None), (2, ("unlock", letter(0), key)), (2, None), (1, ("lock", letter(1), key)))
        self.assertEqual(self.check(where, 2, run), ((0, None), (1, ("lock", ("digest", ("unlock", letter(0), key)), key))))

    def test_parts_that_are_not_apart(self):
        where = world((SHOW, ECHO), "show ann", "echo ann", "echo bob")
        for many in (1, 2):
            for run in ((), ((0, None),), ((7, None),), ((0, letter(5)),)):
                with self.assertRaises(BadJoin):
                    project(where, many, run)

    def test_impossible_moves(self):
        where = world((SHOW, ECHO), "show ann", "echo bob")
        for run, at in ((((7, None),), 0), (((0, None), (0, None)), 1), (((0, None), (1, letter(1))), 1), (((1, None),), 0), (((0, None), (1, letter(0)), (-1, None)), 2)):
            for many in range(3):
                with self.assertRaises(BadMove) as caught:
                    project(where, many, run)
                self.assertEqual(caught.exception.at, at)

    def test_letters_that_are_too_large(self):
        echo = role("echo", "take (var x)", "send (pair (pair (var x) (var x)) (var x))", parameters=("A",))
        where = world((SHOW, echo), "show ann", "echo bob")
        recipe = ("free", HI)
        while recipe_size(recipe) < 700:
            recipe = ("pair", recipe, recipe)
        with self.assertRaises(TooLarge):
            project(where, 1, ((0, None), (1, recipe), (1, None)))
        self.assertEqual(project(where, 1, ((0, None), (1, recipe))), ((0, None),))

    def test_least_recipes_that_are_too_large(self):
        where = world((doubler(12), ECHO), "doubler ann", "echo bob")
        run = ((0, None),) * 4 + ((0, self.unlocking(12)),)
        replay(where, run[:4])
        with self.assertRaises(TooLarge):
            project(where, 1, run)

    def unlocking(self, many):
        """The digest of the last mark of a doubler."""
        recipe = letter(0)
        for at in range(many):
            lock = letter(1 + at // 4)
            place = at % 4
            for _ in range(3 - place):
                lock = ("left", lock)
            if place > 0:
                lock = ("right", lock)
            recipe = ("unlock", lock, ("pair", recipe, recipe))
        return ("digest", recipe)

    def test_by_chance(self):
        chance = random.Random(122)
        cross, lost = 0, 0
        for _ in range(600):
            where, many = two_parts(chance, 3, chance.randint(1, 2))
            self.assertIs(apart(where, many), True)
            claims = claims_of_the_first_part(chance, where, many)
            run = run_by_chance(chance, where, 9)
            projected = self.check(where, many, run, claims)
            cross += any(recipe != other for (_, recipe), (_, other) in zip([move for move in run if move[0] < many], projected))
            lost += any(broken(where, claim, run) for claim in claims)
        self.assertGreater(cross, 30)
        self.assertGreater(lost, 30)

    def test_parameter_names(self):
        self.assertEqual(project(world=world((SHOW,), "show ann"), many=1, run=((0, None),)), ((0, None),))


def claims_of_the_first_part(chance, where, many):
    """Claims that speak of sessions of the first part, and of roles that it uses or nobody does."""
    used = [name for name, _ in where.sessions[many:]]
    alone = World(tuple(one for one in where.roles if one[0] not in used), where.sessions[:many], where.good)
    found = [chance_worlds.claim(chance, alone) for _ in range(4)] if many else []
    return [claim for claim in found if claim is not None]


class Kept(unittest.TestCase):
    """Point [37]: what a join keeps."""

    def test_the_whole_and_the_first_part(self):
        chance = random.Random(123)
        found = {}
        for _ in range(60):
            where, many = two_parts(chance)
            alone = World(where.roles, where.sessions[:many], where.good)
            for claim in claims_of_the_first_part(chance, where, many)[:2]:
                kinds = [self.kind(one, claim) for one in (where, alone)]
                if None not in kinds:
                    self.assertEqual(kinds[0], kinds[1], (where.roles, where.sessions, claim))
                    found[kinds[0]] = found.get(kinds[0], 0) + 1
        self.assertGreater(min(found.values()), 10)

    def kind(self, where, claim):
        try:
            return judge(where, claim, limit=3000)[0]
        except TooLarge:
            return None

    def test_claims_of_the_second_world(self):
        first, second = world((SHOW,), "show bob", "show bob"), world((ECHO, GIVE), "echo mal", "give ann ann")
        joined = join_worlds(first, second)
        self.assertIs(apart(joined, 2), True)
        for claim, moved in ((("hidden", 1, N), ("hidden", 3, N)), (("hidden", 0, X), ("hidden", 2, X)),
                             (("agrees", 0, (), "give", 1, ()), ("agrees", 2, (), "give", 1, ()))):
            self.assertEqual(judge(second, claim)[0], judge(joined, moved)[0])
        self.assertEqual(judge(joined, ("hidden", 3, N))[0], "paper")
        self.assertEqual(judge(joined, ("hidden", 0, N))[0], "run")

    def test_a_host_that_is_good_in_the_other_world_alone(self):
        # The second world alone gives the mark away, and the join does not.
        first, second = world((), good=("mal",)), world((GIVE,), "give ann mal", good=("ann",))
        joined = join_worlds(first, second)
        self.assertIs(apart(joined, 0), True)
        self.assertEqual(judge(second, ("hidden", 0, N))[0], "run")
        self.assertEqual(judge(joined, ("hidden", 0, N))[0], "paper")


if __name__ == "__main__":
    unittest.main()
