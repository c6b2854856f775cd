"""The whole program: what its parts say of one world and claim agrees, also with plain trying of short runs."""

import copy
import random
import unittest

from muffline.claims import broken, crowd, leak
from muffline.desk import Desk
from muffline.errors import MuffError, TooLarge
from muffline.joining import apart, join_worlds, project
from muffline.judge import check, instance_run, judge, least_break
from muffline.likeness import runs_alike
from muffline.mends import edited, mend
from muffline.recipes import cook, wall_for
from muffline.runs import is_tidy, replay, schedule_of, tidy
from muffline.texts import read_world, write_world
from muffline.ward import Ward
from muffline.worlds import World
from tests import chance_worlds, plain_runs, plain_worlds
from tests.test_cases import SMALL
from tests.test_joining import run_by_chance
from tests.worlds import SHOW


def shape(where):
    return (where.roles, where.sessions, where.good)


def answer_for(run):
    return " ".join(["breaks"] + [str(session) for session in schedule_of(run)])


class Agreement(unittest.TestCase):
    def check_all(self, where, claim, chance):
        kind, evidence = judge(where, claim)
        least = least_break(where, claim)
        self.assertEqual(least is None, kind == "paper")
        if kind == "run":
            self.check_run(where, claim, evidence)
            self.check_run(where, claim, least)
            self.assertLessEqual((len(least), schedule_of(least)), (len(evidence), schedule_of(evidence)))
        else:
            self.assertIs(check(where, claim, evidence), True)
            self.check_states(where, claim, evidence)
        self.check_mend(where, claim, kind, evidence)
        self.check_ward_and_desk(where, claim, kind, evidence, least)
        self.check_tried(where, claim, kind, least, chance)
        self.check_join(where, claim, kind, evidence)
        return kind

    def check_run(self, where, claim, run):
        self.assertTrue(is_tidy(where, run))
        self.assertEqual(tidy(where, run), run)
        self.assertTrue(broken(where, claim, run))
        self.assertTrue(plain_worlds.broken(where, claim, run))
        self.assertIs(runs_alike(where, run, where, run), True)
        _, _, row = replay(where, run)
        if claim[0] == "hidden":
            self.assertIsNotNone(cook(where.good, row, leak(where, claim, run)))
        self.assertEqual(crowd(where, claim, run) is not None, claim[0] == "each")

    def check_states(self, where, claim, paper):
        """Each state of a paper is a run that does not break the claim."""
        for case, _ in paper:
            if case[0] == "state":
                run = instance_run(where, case)
                self.assertFalse(broken(where, claim, run))
                self.assertEqual(schedule_of(run), case[1])

    def check_mend(self, where, claim, kind, evidence):
        expected = ((), evidence, ()) if kind == "paper" else (None, None, (((), evidence),))
        self.assertEqual(mend(where, claim, ()), expected)
        self.assertEqual(shape(edited(where, ())), shape(where))

    def check_ward_and_desk(self, where, claim, kind, evidence, least):
        ward = Ward(where, (claim,))
        self.assertEqual(ward.verdict(0), (kind, evidence, "judged"))
        self.assertEqual(ward.verdict(0), (kind, evidence, "kept"))
        text = write_world(where, (claim,))
        again, claims = read_world(text)
        self.assertEqual((shape(again), claims), (shape(where), (claim,)))
        self.assertEqual(judge(again, claim), (kind, evidence))
        desk = Desk(text)
        self.assertEqual(desk.answer("judge 0"), "keeps" if kind == "paper" else answer_for(evidence))
        self.assertEqual(desk.answer("least 0"), "keeps" if kind == "paper" else answer_for(least))
        self.assertEqual(desk.answer("world"), text)

    def check_tried(self, where, claim, kind, least, chance):
        tried = plain_runs.least_schedule_by_trying(where, claim, cap=120)
        if tried is not None:
            self.assertEqual(kind, "run")
            self.assertLessEqual((len(least), schedule_of(least)), (len(tried), tried))
        for _ in range(3):
            run = run_by_chance(chance, where, 7)
            if broken(where, claim, run):
                self.assertEqual(kind, "run")
                self.assertTrue(broken(where, claim, tidy(where, run)))

    def check_join(self, where, claim, kind, evidence):
        """A join with a session of a host of its own keeps the same claims, and its runs can be projected."""
        other = World((("show", SHOW[1], SHOW[2]),), (("show", ("zed",)),), ("zed",))
        names = [one[0] for one in where.roles]
        if len(where.sessions) > 3 or where.total_steps() > 11 or len(names) > 3 or "show" in names:
            return
        joined = join_worlds(where, other)
        self.assertIs(apart(joined, len(where.sessions)), True)
        found, run = judge(joined, claim)
        self.assertEqual(found, kind)
        if kind == "run":
            alone = World(joined.roles, where.sessions, joined.good)
            for one in (run, least_break(joined, claim)):
                self.assertTrue(broken(alone, claim, project(joined, len(where.sessions), one)))
            self.assertTrue(broken(joined, claim, evidence))

    def test_small_worlds(self):
        chance = random.Random(161)
        kinds = {(self.check_all(where, claim, chance), claim[0]) for where, claim in SMALL}
        self.assertGreater(len(kinds), 4)

    def test_worlds_by_chance(self):
        chance = random.Random(162)
        kinds = {}
        for _ in range(120):
            where = chance_worlds.world(chance, chance.randint(1, 2), chance.randint(1, 3))
            claim = chance_worlds.claim(chance, where)
            if claim is not None:
                kind = self.check_all(where, claim, chance)
                kinds[kind, claim[0]] = kinds.get((kind, claim[0]), 0) + 1
        self.assertEqual(len(kinds), 6)
        self.assertGreater(min(kinds.values()), 4)

    def test_mends_are_kept_by_wards(self):
        chance = random.Random(163)
        mended = 0
        for _ in range(80):
            where = chance_worlds.world(chance, 2, 2, 2)
            claim = chance_worlds.claim(chance, where)
            places = [(one[0], step) for one in where.roles for step in range(len(one[2]))]
            edits = tuple((name, step, chance_worlds.role_term(chance, 2)) for name, step in chance.sample(places, min(2, len(places))))
            if claim is None:
                continue
            numbers, paper, trials = mend(where, claim, edits)
            ward = Ward(where, (claim,))
            ward.verdict(0)
            if numbers:
                mended += 1
                try:
                    for number in numbers:
                        ward.change_step(*edits[number])
                except MuffError:
                    continue
                self.assertEqual(ward.verdict(0), ("paper", paper, "judged"))
                self.assertEqual(shape(ward.world), shape(edited(where, tuple(edits[number] for number in numbers))))
            elif numbers == ():
                self.assertEqual(ward.verdict(0), ("paper", paper, "kept"))
            else:
                self.assertEqual(ward.verdict(0), ("run", trials[0][1], "kept"))
        self.assertGreater(mended, 5)

    def test_walls_of_papers(self):
        """Where a world keeps a secret, each run has a wall for it, if its variables are met."""
        chance = random.Random(164)
        seen = 0
        for where, claim in SMALL:
            if claim[0] == "hidden" and judge(where, claim)[0] == "paper":
                for _ in range(10):
                    _, bindings, row = replay(where, run_by_chance(chance, where, 7))
                    term = plain_worlds.place(where, claim[1], claim[2])
                    if not plain_runs.plain.variables(term):
                        self.assertIsNotNone(wall_for(where.good, row, term))
                        seen += 1
        self.assertGreater(seen, 10)


class General(unittest.TestCase):
    """Point [2]: arguments stay as they are, and equal calls give equal results."""

    def test_arguments_stay(self):
        chance = random.Random(165)
        for where, claim in SMALL:
            run = run_by_chance(chance, where, 6)
            kind, evidence = judge(where, claim)
            paper = evidence if kind == "paper" else ()
            arguments = (shape(where), claim, run, paper)
            before = copy.deepcopy(arguments)
            results = []
            for _ in range(2):
                again = World(*shape(where))
                results.append((judge(again, claim), least_break(again, claim), check(again, claim, paper), broken(again, claim, run), tidy(again, run),
                                mend(again, claim, ()), apart(again, 1), project(again, len(again.sessions), run), write_world(again, (claim,)),
                                shape(join_worlds(again, World((), (), ())))))
            self.assertEqual(results[0], results[1])
            self.assertEqual(arguments, before)

    def test_limits_of_one_case(self):
        for where, claim in SMALL:
            for function in (judge, least_break):
                try:
                    function(where, claim, limit=1)
                except TooLarge:
                    continue
                self.assertEqual((where.sessions[0][0], claim[0]), ("idle", "agrees"))


if __name__ == "__main__":
    unittest.main()
