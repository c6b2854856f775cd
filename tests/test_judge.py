"""Points [27] to [31]: the judge, papers, and least breaks."""

import inspect
import random
import unittest

from muffline.cases import is_settled, start_case, unfold
from muffline.claims import broken, check_claim
from muffline.errors import TooLarge
from muffline.judge import check, instance_run, judge, least_break
from muffline.runs import is_tidy, replay, schedule_of
from tests import chance_worlds, plain, plain_runs, plain_worlds
from tests.test_cases import KEY, LARGER, N, SMALL, X
from tests.test_runs import HI
from tests.worlds import ANSWER, ASK, ECHO, GET, GIVE, IDLE, SHOW, role, world

START = plain_runs.START
TREES = [(where, claim, plain_runs.tree(where, claim)) for where, claim in SMALL]
KEPT = [(where, claim, cases) for where, claim, cases in TREES if plain_runs.first_broken(cases) is None]
LOST = [(where, claim, cases) for where, claim, cases in TREES if plain_runs.first_broken(cases) is not None]

# Its tree has a term that is too large: the lock's content becomes 14 times as large with each session.
FOUR = "(pair (pair {0} {0}) (pair {0} {0}))"
FOURTEEN = "(pair (pair " + FOUR + " " + FOUR + ") (pair " + FOUR + " (pair {0} {0})))"
GROW = role("grow", "take (lock (var x) (both A B))", "send (lock " + FOURTEEN.format("(var x)") + " (both A B))")
SEED = role("seed", "send (lock " + FOURTEEN.format("(mark n)") + " (both A B))")
GROWING = world((SEED, GROW), "seed ann bob", "grow ann bob", "grow ann bob")

TWINS = (
    world((role("twin", "send (pair (lock (mark n) (both A B)) (lock (mark m) (both A B)))"),
           role("twice", "take (pair (lock (var x) (both A B)) (lock (var y) (both A B)))")), "twin ann bob", "twice ann bob"),
    ("agrees", 1, (), "twin", 1, ()),
)

# The least recipe of the last mark is too large, and each case is small: each lock opens with two of the mark before.
NAMES = "abcdefghijklmnopqrst"


def doubling(first, last):
    """A term of locks, each with a mark that opens the next lock."""
    locks = ["(lock (mark {1}) (pair (mark {0}) (mark {0})))".format(NAMES[at], NAMES[at + 1]) for at in range(first, last)]
    text = locks[0]
    for lock in locks[1:]:
        text = "(pair " + text + " " + lock + ")"
    return text


def doubler(many):
    """A role that takes the last of so many marks, which must be opened one after the other."""
    texts = ["send (mark a)"] + ["send " + doubling(at, min(at + 4, many)) for at in range(0, many, 4)]
    return role("doubler", *texts, "take (digest (mark " + NAMES[many] + "))", "send (mark z)", parameters=("A",))


def places_of(paper):
    """The places of the pairs by their cases."""
    return {key_of_case(case): at for at, (case, _) in enumerate(paper)}


def key_of_case(case):
    stage, schedule, row, demands, bindings = case
    return repr((stage, schedule, row, demands, bindings))


def shared(paper):
    """The paper with equal cases once, in the order of the last places where they stand."""
    last = places_of(paper)
    kept = sorted(last.values())
    numbers = {at: number for number, at in enumerate(kept)}
    return tuple((paper[at][0], tuple(numbers[last[key_of_case(paper[below][0])]] for below in paper[at][1])) for at in kept)


def reordered(chance, paper):
    """The paper with its pairs in another order, in which each stands behind the one above it."""
    order, ready = [], [0]
    while ready:
        at = ready.pop(chance.randrange(len(ready)))
        order.append(at)
        ready += paper[at][1]
    places = {at: place for place, at in enumerate(order)}
    return tuple((paper[at][0], tuple(places[below] for below in paper[at][1])) for at in order)


class Judge(unittest.TestCase):
    def test_small_trees(self):
        for where, claim, cases in TREES:
            at = plain_runs.first_broken(cases)
            if at is None:
                self.assertEqual(judge(where, claim), ("paper", plain_runs.paper_of(cases)))
            else:
                self.assertEqual(judge(where, claim), ("run", plain_runs.instance(where, cases[at][0])))
        self.assertGreater(len(KEPT), 3)
        self.assertGreater(len(LOST), 3)

    def test_larger_trees(self):
        for where, claim in LARGER:
            cases = plain_runs.tree(where, claim)
            at = plain_runs.first_broken(cases)
            expected = ("paper", plain_runs.paper_of(cases)) if at is None else ("run", plain_runs.instance(where, cases[at][0]))
            self.assertEqual(judge(where, claim), expected)

    def test_the_form_of_papers(self):
        for where, claim, _ in KEPT:
            kind, paper = judge(where, claim)
            self.assertEqual(kind, "paper")
            self.assertEqual(paper[0][0], START)
            below = [number for _, numbers in paper for number in numbers]
            self.assertEqual(sorted(below), list(range(1, len(paper))))
            for at, (case, numbers) in enumerate(paper):
                self.assertIsInstance(numbers, tuple)
                self.assertTrue(all(number > at for number in numbers))
                self.assertEqual(unfold(where, claim, case), tuple(paper[number][0] for number in numbers))

    def test_each_case_before_those_under_it(self):
        where = world((SHOW, ECHO), "show ann", "echo bob", good=("ann", "bob"))
        claim = ("agrees", 0, (), "echo", 0, ())
        _, paper = judge(where, claim)
        self.assertEqual([(case[0], case[1]) for case, _ in paper], [
            ("state", ()), ("state", (0,)), ("move", (0, 1)), ("state", (0, 1)), ("state", (0, 1, 1)),
            ("move", (1,)), ("state", (1,)), ("state", (1, 1)),
        ])
        self.assertEqual([numbers for _, numbers in paper], [(1, 5), (2,), (3,), (4,), (), (6,), (7,), ()])

    def test_the_first_broken_case(self):
        # The least break comes later than the first one.
        where, claim = world((ECHO, SHOW), "echo ann", "show ann", "echo bob"), ("hidden", 2, X)
        kind, run = judge(where, claim)
        self.assertEqual((kind, schedule_of(run)), ("run", (0, 0, 1, 2)))
        self.assertEqual(schedule_of(least_break(where, claim)), (2,))

    def test_a_start_that_is_broken(self):
        where = world((IDLE, SHOW), "idle ann")
        self.assertEqual(judge(where, ("agrees", 0, (), "show", 0, ()), limit=1), ("run", ()))
        self.assertEqual(judge(where, ("each", "idle", (), "show", 0, ()), limit=1), ("run", ()))

    def test_a_world_without_sessions(self):
        for claim in (("each", "show", (), "idle", 0, ()), ("each", "show", (), "show", 1, ())):
            self.assertEqual(judge(world((IDLE, SHOW)), claim, limit=1), ("paper", ((START, ()),)))

    def test_the_limit(self):
        for where, claim, cases in TREES:
            at = plain_runs.first_broken(cases)
            many = len(cases) if at is None else at + 1
            for limit in (many, many + 1, 20000):
                self.assertEqual(judge(where, claim, limit=limit), judge(where, claim))
            for limit in range(1, many):
                if limit in (1, 2, many // 2, many - 1):
                    with self.assertRaises(TooLarge):
                        judge(where, claim, limit=limit)

    def test_the_default_limit(self):
        for function in (judge, least_break):
            limit = inspect.signature(function).parameters["limit"]
            self.assertEqual((limit.default, limit.kind), (20000, limit.KEYWORD_ONLY))

    def test_a_tree_beyond_a_limit(self):
        ask_four = world((ASK, ANSWER), "ask ann bob", "answer bob ann", "ask ann bob", "answer bob ann")
        with self.assertRaises(TooLarge):
            judge(ask_four, ("hidden", 0, N), limit=3000)

    def test_terms_that_are_too_large(self):
        claim = ("hidden", 0, N)
        with self.assertRaises(TooLarge):
            judge(GROWING, claim)
        with self.assertRaises(TooLarge):
            least_break(GROWING, claim)
        # A broken case that comes first is enough for judge, and not for least_break.
        where = world((SHOW, SEED, GROW), "show ann", "seed ann bob", "grow ann bob", "grow ann bob")
        self.assertEqual(judge(where, claim), ("run", ((0, None),)))
        with self.assertRaises(TooLarge):
            least_break(where, claim)

    def test_least_recipes_that_are_too_large(self):
        for many, fits in ((4, True), (12, False)):
            where = world((doubler(many),), "doubler ann")
            claim = ("hidden", 0, ("mark", "z"))
            check_claim(where, claim)
            for function in (judge, least_break):
                if fits:
                    self.assertTrue(function(where, claim))
                else:
                    with self.assertRaises(TooLarge):
                        function(where, claim)
            # No recipe is needed where the run has no take.
            self.assertEqual(judge(where, ("hidden", 0, ("mark", "a"))), ("run", ((0, None),)))

    def test_parameter_names(self):
        where, claim, _ = KEPT[0]
        kind, paper = judge(world=where, claim=claim, limit=20000)
        self.assertTrue(check(world=where, claim=claim, paper=paper))
        self.assertIsNone(least_break(world=where, claim=claim, limit=20000))
        self.assertEqual(instance_run(world=where, case=START), ())

    def test_equal_calls(self):
        for where, claim, _ in TREES:
            again = world(where.roles, *[" ".join([name, *hosts]) for name, hosts in where.sessions], good=where.good)
            self.assertEqual(judge(where, claim), judge(again, claim))
            self.assertEqual(least_break(where, claim), least_break(again, claim))


class Instances(unittest.TestCase):
    def test_all_settled_cases(self):
        many = 0
        for where, claim, cases in TREES:
            for case, after in cases:
                if is_settled(case):
                    run = instance_run(where, case)
                    self.assertEqual(run, plain_runs.instance(where, case))
                    self.assertEqual(schedule_of(run), case[1])
                    self.assertTrue(is_tidy(where, run))
                    done, bindings, row = replay(where, run)
                    letters = [letter for _, word, letter in plain_runs.filled_letters(where, case) if word == "send"]
                    self.assertEqual(row, tuple(letters))
                    if after is None:
                        self.assertTrue(broken(where, claim, run))
                        self.assertTrue(plain_worlds.broken(where, claim, run))
                    many += 1
        self.assertGreater(many, 100)

    def test_road_marks_in_ascending_order(self):
        wide = role("wide", "take (pair (var y) (pair (var ab) (var a)))", "take (var x)", parameters=("A",))
        where = world((wide,), "wide ann", "wide bob")
        case = START
        for session in (1, 0, 1, 0):
            step = (session, where.steps_of(session)[case[1].count(session)][1])
            demands = tuple((0, variable) for variable in plain.variables(step[1]))
            case = ("state", case[1] + (session,), (), case[3] + demands, ())
        road = {variable: ("road", at) for at, variable in enumerate([("var", s, n) for s in (0, 1) for n in ("a", "ab", "x", "y")])}
        bindings = replay(where, instance_run(where, case))[1]
        self.assertEqual(dict(bindings), road)

    def test_replaced_variables_get_no_mark(self):
        where = world((GIVE, ECHO), "give ann bob", "echo ann", "echo bob", "echo bob")
        letter = ("lock", ("mark", 0, "n"), KEY)
        x, y, z = [("var", session, "x") for session in (1, 2, 3)]
        case = ("state", (0, 1, 2, 3), (letter,), ((1, z),), ((x, letter), (y, ("digest", z))))
        run = instance_run(where, case)
        self.assertEqual(run, ((0, None), (1, ("letter", 0)), (2, ("digest", ("free", ("road", 0)))), (3, ("free", ("road", 0)))))

    def test_variables_of_steps_that_are_not_done(self):
        two = role("two", "take (var x)", "take (pair (var a) (var x))", parameters=("A",))
        where = world((two,), "two ann")
        case = ("state", (0,), (), ((0, ("var", 0, "x")),), ())
        self.assertEqual(instance_run(where, case), ((0, ("free", ("road", 0))),))

    def test_letters_before_a_take_alone(self):
        where = world((SHOW, ECHO), "show ann", "echo bob", "show ann")
        x, n = ("var", 1, "x"), ("mark", 0, "n")
        case = ("state", (0, 1, 2), (n, ("mark", 2, "n")), (), ((x, n),))
        self.assertEqual(instance_run(where, case), ((0, None), (1, ("letter", 0)), (2, None)))

    def test_the_start(self):
        self.assertEqual(instance_run(SMALL[0][0], start_case()), ())


class Check(unittest.TestCase):
    def test_papers_of_the_judge(self):
        for where, claim, cases in KEPT:
            self.assertIs(check(where, claim, judge(where, claim)[1]), True)
            self.assertIs(check(where, claim, plain_runs.paper_of(cases)), True)

    def test_other_orders(self):
        chance = random.Random(91)
        for where, claim, cases in KEPT:
            paper = plain_runs.paper_of(cases)
            for _ in range(5):
                self.assertIs(check(where, claim, reordered(chance, paper)), True)

    def test_shared_cases(self):
        less = 0
        for where, claim, cases in KEPT:
            paper = plain_runs.paper_of(cases)
            once = shared(paper)
            self.assertIs(check(where, claim, once), True)
            less += len(once) < len(paper)
        self.assertEqual(less, 0)
        # The letter is taken as a whole, or both its items are; this ends in equal cases.
        where, claim = TWINS
        paper = judge(where, claim)[1]
        once = shared(paper)
        self.assertLess(len(once), len(paper))
        self.assertIs(check(where, claim, paper), True)
        self.assertIs(check(where, claim, once), True)

    def test_pairs_that_are_not_reached(self):
        where, claim, cases = KEPT[0]
        paper = plain_runs.paper_of(cases)
        closed = ("move", (0,), (), ((0, ("mark", 0, "n")),), ())
        self.assertIs(check(where, claim, paper + ((closed, ()),)), True)
        self.assertIs(check(where, claim, paper + (paper[-1], paper[-1])), True)
        self.assertIs(check(where, claim, paper + ((START, ()),)), False)
        self.assertIs(check(where, claim, paper + ((("goal", (), (), (), ()), ()),)), False)

    def test_the_empty_paper(self):
        for where, claim, _ in TREES:
            self.assertIs(check(where, claim, ()), False)

    def test_another_first_case(self):
        for where, claim, cases in KEPT:
            paper = plain_runs.paper_of(cases)
            self.assertIs(check(where, claim, paper[1:]), False)
            leaf = [pair for pair in paper if pair[1] == ()][:1]
            self.assertIs(check(where, claim, tuple(leaf)), len(paper) == 1)
        where, claim = world(()), ("each", "idle", (), "idle", 0, ())
        where = world((IDLE,))
        self.assertIs(check(where, claim, ((START, ()),)), True)
        for other in (("move", (), (), (), ()), ("goal", (), (), (), ()), ("state", (), (HI,), (), ()), ("state", (), (), ((0, X_0),), ()),
                      ("state", (), (), (), ((X_0, HI),))):
            self.assertIs(check(where, claim, ((other, ()),)), False)
            self.assertIs(check(where, claim, ((other, (1,)), (START, ()))), False)

    def test_spoilt_numbers(self):
        for where, claim, cases in KEPT:
            paper = plain_runs.paper_of(cases)
            for at in {0, 1, len(paper) // 2, len(paper) - 1}:
                case, numbers = paper[at]
                wrong = [numbers + (other,) for other in (-1, -len(paper), at, at + 1, len(paper) - 1, len(paper), len(paper) + 5, 10 ** 30)]
                wrong += [numbers[:-1], numbers[1:], numbers[::-1], numbers + numbers[:1]]
                wrong += [numbers[:place] + (other,) + numbers[place + 1:] for place in range(len(numbers))
                          for other in (numbers[place] + 1, numbers[place] - 1, -1, at, 0, len(paper), numbers[place] - len(paper))]
                for other in wrong:
                    if other != numbers and [paper[n][0] for n in other if 0 <= n < len(paper)] != [paper[n][0] for n in numbers]:
                        self.assertIs(check(where, claim, paper[:at] + ((case, other),) + paper[at + 1:]), False, (at, other))

    def test_numbers_that_are_not_greater(self):
        # The same case stands ahead of the pair and behind it; only the latter may be named.
        where, claim = world((SHOW,), "show ann", "show ann"), ("each", "show", (), "show", 0, ())
        paper = judge(where, claim)[1]
        self.assertEqual(paper, (
            (START, (1, 3)), (("state", (0,), (("mark", 0, "n"),), (), ()), (2,)),
            (("state", (0, 1), (("mark", 0, "n"), ("mark", 1, "n")), (), ()), ()),
            (("state", (1,), (("mark", 1, "n"),), (), ()), ()),
        ))
        self.assertIs(check(where, claim, paper), True)
        last = paper[2]
        for place, fits in ((2, False), (3, False), (4, True), (5, False), (-1, False), (1, False)):
            other = ((START, (3, 1)), paper[3], last, (paper[1][0], (place,)), last)
            self.assertIs(check(where, claim, other), fits, place)

    def test_next_cases_in_another_order(self):
        where, claim = world((SHOW,), "show ann", "show ann"), ("each", "show", (), "show", 0, ())
        first, one, two, other = judge(where, claim)[1]
        self.assertIs(check(where, claim, ((START, (3, 1)), one, two, other)), False)
        self.assertIs(check(where, claim, ((START, (3, 2)), other, (one[0], (4,)), other, two)), False)
        self.assertIs(check(where, claim, ((START, (2, 1)), other, (one[0], (3,)), two)), True)

    def test_a_case_left_out(self):
        for where, claim, cases in KEPT:
            paper = plain_runs.paper_of(cases)
            for at in range(1, len(paper)):
                moved = {number: number - (number > at) for number in range(len(paper)) if number != at}
                without = tuple((case, tuple(moved[n] for n in numbers if n != at)) for case, numbers in paper[:at] + paper[at + 1:])
                self.assertIs(check(where, claim, without), False)

    def test_broken_cases(self):
        for where, claim, cases in LOST:
            paper = tuple((case, numbers) for case, numbers in paper_with_breaks(cases))
            self.assertIs(check(where, claim, paper), False)
        # The paper of one claim is none for another.
        where, claim = world((GIVE, GET), "give ann bob", "get bob ann"), ("agrees", 1, (X,), "give", 1, (N,))
        paper = judge(where, claim)[1]
        self.assertIs(check(where, claim, paper), True)
        self.assertIs(check(where, ("agrees", 1, (X,), "give", 1, (("host", "A"),)), paper), False)

    def test_schedules_of_other_worlds(self):
        claim = ("each", "show", (), "show", 0, ())
        where = world((SHOW,), "show ann", "show ann")
        paper = judge(where, claim)[1]
        for schedule in ((2,), (-1,), (0, 0), (0, 1, 1), (1, 1), (7,), (0, 1, 2), (-2,), (10 ** 20,)):
            case = ("state", schedule, (), (), ())
            self.assertIs(check(where, claim, paper + ((case, ()),)), False)
            for stage in ("move", "goal"):
                self.assertIs(check(where, claim, paper + (((stage, schedule, (), ((0, N_0),), ()), ()),)), False)
            self.assertIs(check(where, claim, ((START, (1,)), (case, ()))), False)
        fewer = world((SHOW,), "show ann")
        self.assertIs(check(fewer, ("each", "show", (), "show", 0, ()), paper), False)
        shorter = world((role("show", parameters=("A",)),), "show ann", "show ann")
        self.assertIs(check(shorter, claim, paper), False)
        self.assertIs(check(world((SHOW,)), claim, paper), False)
        for other in (fewer, shorter, world((SHOW,))):
            for tail in paper[1:]:
                self.assertIs(check(other, claim, ((START, ()), tail)), False)

    def test_papers_of_other_worlds(self):
        papers = [plain_runs.paper_of(cases) for _, _, cases in KEPT]
        for where, claim, cases in TREES:
            for paper in papers:
                self.assertIs(check(where, claim, paper), paper == plain_runs.paper_of(cases) if (where, claim, cases) in KEPT else False)

    def test_too_large(self):
        claim = ("each", "grow", (), "seed", 0, ())
        pairs, at = self.pairs_around_the_large_one(claim)
        large = pairs[at]
        for paper in (pairs, pairs[:-1] + [(pairs[-1][0], (0,))], pairs + [(("state", (7,), (), (), ()), ())]):
            with self.assertRaises(TooLarge):
                check(GROWING, claim, tuple(paper))
        # A pair that is wrong ahead of it decides; the numbers of the pair itself come after unfold.
        for place in range(at):
            case, numbers = pairs[place]
            self.assertIs(check(GROWING, claim, (*pairs[:place], (case, numbers + (at,)), *pairs[place + 1:])), False)
        for numbers in ((0,), (-1,), (at,), (99,)):
            with self.assertRaises(TooLarge):
                check(GROWING, claim, (*pairs[:at], (large[0], numbers), *pairs[at + 1:]))
        # The first case is looked at before all pairs.
        self.assertIs(check(GROWING, claim, (large,)), False)
        self.assertIs(check(GROWING, claim, ((START, ()), large)), False)

    def test_the_schedule_ahead_of_what_is_too_large(self):
        claim = ("each", "grow", (), "seed", 0, ())
        pairs, at = self.pairs_around_the_large_one(claim)
        stage, schedule, row, demands, bindings = pairs[at][0]
        for more, fits in (((), True), ((3,), False), ((-1,), False), ((0,), False), ((1, 1), False)):
            # An unreached pair at the second place, so that the others move up by one.
            moved = [(case, tuple(number + 1 for number in numbers)) for case, numbers in pairs]
            other = ((stage, (*schedule, *more), row, demands, bindings), ())
            paper = (moved[0], other, *moved[1:])
            if fits:
                with self.assertRaises(TooLarge):
                    check(GROWING, claim, paper)
            else:
                self.assertIs(check(GROWING, claim, paper), False)

    def pairs_around_the_large_one(self, claim):
        """The pairs up to the one that cannot be unfolded, with the cases that they need behind it, and its place."""
        cases, places, at = [START], [()], 0
        while True:
            try:
                after = unfold(GROWING, claim, cases[at])
            except TooLarge:
                self.assertLess(at + 1, len(cases))
                return list(zip(cases, places)), at
            places[at] = tuple(range(len(cases), len(cases) + len(after)))
            cases += after
            places += [()] * len(after)
            at += 1

    def test_no_paper_of_a_world_where_a_run_breaks_the_claim(self):
        chance = random.Random(92)
        for where, claim, cases in LOST:
            every = paper_with_breaks(cases)
            self.assertIs(check(where, claim, every), False)
            for _ in range(20):
                # Leave some next cases out, or end the paper early.
                spoilt = tuple((case, tuple(n for n in numbers if chance.random() < 0.9)) for case, numbers in every)
                self.assertIs(check(where, claim, spoilt), False)
                self.assertIs(check(where, claim, every[:chance.randrange(len(every))]), False)


X_0, N_0 = ("var", 0, "x"), ("mark", 0, "n")


def paper_with_breaks(cases):
    """A paper of a tree in which broken cases have nothing under them."""
    return plain_runs.paper_of([(case, after or ()) for case, after in cases])


class LeastBreak(unittest.TestCase):
    def test_small_trees(self):
        for where, claim, cases in TREES:
            found = [case for case, after in cases if after is None]
            if not found:
                self.assertIsNone(least_break(where, claim))
            else:
                least = min(found, key=lambda case: (len(case[1]), case[1]))
                self.assertEqual(least_break(where, claim), plain_runs.instance(where, least))

    def test_shortest_first_then_ascending(self):
        where = world((ECHO, SHOW), "echo ann", "show ann", "echo bob")
        self.assertEqual(least_break(where, ("hidden", 1, N)), ((1, None),))
        where = world((SHOW, ECHO), "show ann", "show ann", "echo ann", "show ann")
        claim = ("each", "show", (), "echo", 1, ())
        self.assertEqual(schedule_of(judge(where, claim)[1]), (0,))
        self.assertEqual(schedule_of(least_break(where, claim)), (0,))
        where = world((SHOW, ECHO, IDLE), "show ann", "echo ann", "echo bob")
        claim = ("each", "echo", (), "idle", 0, ())
        self.assertEqual(schedule_of(judge(where, claim)[1]), (0, 1, 1))
        self.assertEqual(schedule_of(least_break(where, claim)), (1, 1))

    def test_the_number_of_moves_counts_and_not_that_of_letters(self):
        many = role("many", "send (word hi)", "send (word hi)", "send (both A B)")
        late = role("late", "take (var x)", "take (var y)", "take (var z)", "send (both A B)")
        for sessions, least in ((("give ann bob", "many ann bob", "late ann bob"), (1, 1, 1)), (("give ann bob", "late ann bob", "many ann bob"), (2, 2, 2))):
            run = least_break(world((GIVE, many, late), *sessions), ("hidden", 0, ("both", "A", "B")))
            self.assertEqual(schedule_of(run), least)

    def test_of_several_the_first_in_the_order_of_judge(self):
        two = role("two", "send (pair (lock (mark n) (both A B)) (lock (mark m) (both A B)))")
        where = world((two, GET), "two ann bob", "get bob ann")
        claim = ("agrees", 1, (X,), "two", 1, (("both", "A", "B"),))
        run = least_break(where, claim)
        self.assertEqual(run, ((0, None), (1, ("left", ("letter", 0)))))
        cases = plain_runs.tree(where, claim)
        found = [case for case, after in cases if after is None and case[1] == (0, 1)]
        self.assertEqual([case[4] for case in found], [((("var", 1, "x"), ("mark", 0, "n")),), ((("var", 1, "x"), ("mark", 0, "m")),)])

    def test_the_limit(self):
        for where, claim, cases in TREES:
            for limit in (len(cases), len(cases) + 1):
                self.assertEqual(least_break(where, claim, limit=limit), least_break(where, claim))
            for limit in {1, 2, len(cases) // 2, len(cases) - 1}:
                if 0 < limit < len(cases):
                    with self.assertRaises(TooLarge):
                        least_break(where, claim, limit=limit)

    def test_nothing_stands_under_a_broken_case(self):
        where = world((IDLE, SHOW, ECHO), "idle ann", "show bob", "echo bob")
        self.assertEqual(least_break(where, ("agrees", 0, (), "echo", 1, ()), limit=1), ())

    def test_the_rest_of_the_tree_is_unfolded(self):
        # judge stops at its first broken case, after fewer cases than the tree has.
        less = 0
        for where, claim, cases in LOST:
            at = plain_runs.first_broken(cases)
            if at + 1 < len(cases):
                self.assertEqual(judge(where, claim, limit=at + 1)[0], "run")
                with self.assertRaises(TooLarge):
                    least_break(where, claim, limit=at + 1)
                less += 1
        self.assertGreater(less, 3)


class Truth(unittest.TestCase):
    """Points [30] and [31], against plain trying of short runs."""

    def test_small_worlds(self):
        for where, claim, _ in TREES:
            self.check(where, claim)

    def test_worlds_by_chance(self):
        chance = random.Random(93)
        kinds = {}
        for _ in range(160):
            where = chance_worlds.world(chance, chance.randint(1, 3), chance.randint(1, 3))
            claim = chance_worlds.claim(chance, where)
            if claim is not None:
                kind = self.check(where, claim, 150)
                kinds[kind, claim[0]] = kinds.get((kind, claim[0]), 0) + 1
        self.assertEqual(len(kinds), 6)
        self.assertGreater(min(kinds.values()), 5)

    def check(self, where, claim, cap=400):
        kind, evidence = judge(where, claim)
        least = least_break(where, claim)
        tried = plain_runs.least_schedule_by_trying(where, claim, cap=cap)
        if kind == "paper":
            self.assertIs(check(where, claim, evidence), True)
            self.assertIsNone(least)
            self.assertIsNone(tried, (where.roles, where.sessions, claim))
        else:
            for run in (evidence, least):
                self.assertTrue(plain_worlds.broken(where, claim, run))
                self.assertTrue(is_tidy(where, run))
            schedule = schedule_of(least)
            self.assertLessEqual((len(schedule), schedule), (len(evidence), schedule_of(evidence)))
            if tried is not None:
                self.assertLessEqual((len(schedule), schedule), (len(tried), tried))
        return kind


if __name__ == "__main__":
    unittest.main()
