"""Point [45]: desks."""

import unittest

from muffline.desk import Desk
from muffline.errors import BadClaim, BadLine, BadRole, BadWorld, MuffError, TooLarge, UnknownName
from muffline.judge import judge, least_break
from muffline.runs import schedule_of
from muffline.texts import write_world
from tests.test_cases import LARGER, N, SMALL
from tests.test_judge import GROWING, doubler
from tests.test_mends import ATTACKED
from tests.test_texts import ATTACKED_CLAIMS, ATTACKED_TEXT
from tests.worlds import ANSWER, ASK, SHOW, world

ASK_IT = "step ask 1 (box (pair (mark n) (pair (var x) (host B))) A)"
NAME_IT = "step answer 1 (box (pair (var y) (pair (mark m) (host B))) A)"
SHOW_TEXT = "good ann bob\nrole show A\nsend (mark n)\nrole echo A\ntake (var x)\nsend (digest (var x))\nsession show ann\nsession echo bob\nhidden 0 (mark n)\nagrees 0 echo 0"


def breaks(run):
    return " ".join(["breaks"] + [str(session) for session in schedule_of(run)])


class DeskTests(unittest.TestCase):
    def assert_raises(self, desk, error, line):
        before = desk.answer("world")
        for _ in range(2):
            with self.assertRaises(error) as caught:
                desk.answer(line)
            self.assertIs(caught.exception.__class__, error)
            self.assertEqual(desk.answer("world"), before)
        return caught.exception

    def assert_bad(self, desk, line):
        self.assertEqual(self.assert_raises(desk, BadLine, line).line, 1)


class Answers(DeskTests):
    def test_world(self):
        for text in (ATTACKED_TEXT, SHOW_TEXT, "good", "good ann\nrole idle A"):
            desk = Desk(text)
            self.assertEqual(desk.answer("world"), text)
            self.assertEqual(desk.answer(line="world"), text)
        self.assertEqual(Desk(text="good").answer("world"), "good")

    def test_judge_and_least(self):
        for where, claim in SMALL + LARGER:
            desk = Desk(write_world(where, (claim, claim)))
            kind, evidence = judge(where, claim)
            least = least_break(where, claim)
            for _ in range(2):
                for number in ("1", "0"):
                    self.assertEqual(desk.answer("judge " + number), breaks(evidence) if kind == "run" else "keeps")
                    self.assertEqual(desk.answer("least " + number), "keeps" if least is None else breaks(least))

    def test_words(self):
        desk = Desk(ATTACKED_TEXT)
        for number, (kind, evidence) in enumerate(judge(ATTACKED, claim) for claim in ATTACKED_CLAIMS):
            self.assertEqual(desk.answer("judge " + str(number)), "keeps" if kind == "paper" else breaks(evidence))
        self.assertEqual(desk.answer("judge 0"), "breaks 0 1 1 0 0")
        self.assertEqual(desk.answer("least 0"), "breaks 0 1 1 0 0")
        self.assertEqual(desk.answer("judge 1"), "keeps")
        self.assertEqual(desk.answer("least 1"), "keeps")

    def test_a_run_without_moves(self):
        desk = Desk("good\nrole idle A\nsession idle ann\nagrees 0 idle 0")
        self.assertEqual(desk.answer("judge 0"), "breaks")
        self.assertEqual(desk.answer("least 0"), "breaks")

    def test_a_kept_run_need_not_be_judges(self):
        desk = Desk("good ann bob\nrole show A\nsend (mark n)\nrole echo A\ntake (var x)\nsession show ann\nsession echo ann\nhidden 1 (var x)")
        self.assertEqual(desk.answer("judge 0"), "breaks 0 1")
        self.assertEqual(desk.answer("step show 0 (digest (mark n))"), "done")
        self.assertEqual(desk.answer("judge 0"), "breaks 0 1")
        self.assertEqual(desk.answer("good"), "done")
        self.assertEqual(desk.answer("judge 0"), "breaks 0 1")
        self.assertEqual(desk.answer("least 0"), "breaks 1")

    def test_step(self):
        desk = Desk(ATTACKED_TEXT)
        self.assertEqual(desk.answer("judge 0"), "breaks 0 1 1 0 0")
        self.assertEqual(desk.answer(NAME_IT), "done")
        self.assertEqual(desk.answer(ASK_IT), "done")
        self.assertEqual(desk.answer("judge 0"), "keeps")
        lines = ATTACKED_TEXT.split("\n")
        lines[3], lines[7] = "take " + ASK_IT[11:], "send " + NAME_IT[14:]
        self.assertEqual(desk.answer("world"), "\n".join(lines))

    def test_session_and_drop(self):
        desk = Desk(SHOW_TEXT)
        self.assertEqual(desk.answer("session show mal"), "done")
        text = SHOW_TEXT.replace("session echo bob", "session echo bob\nsession show mal")
        self.assertEqual(desk.answer("world"), text)
        self.assertEqual(desk.answer("drop"), "done")
        self.assertEqual(desk.answer("world"), SHOW_TEXT)
        self.assertEqual(desk.answer("drop"), "done")
        self.assertEqual(desk.answer("world"), SHOW_TEXT.replace("\nsession echo bob", ""))

    def test_good(self):
        desk = Desk(SHOW_TEXT)
        for line in ("good", "good ann", "good ann bob zed", "good mal"):
            self.assertEqual(desk.answer(line), "done")
            self.assertEqual(desk.answer("world"), SHOW_TEXT.replace("good ann bob", line))

    def test_undo(self):
        desk = Desk(SHOW_TEXT)
        self.assert_raises(desk, UnknownName, "undo")
        texts = [desk.answer("world")]
        for line in ("good ann", "session echo mal", "step show 0 (digest (mark n))", "drop", "drop"):
            self.assertEqual(desk.answer(line), "done")
            texts.append(desk.answer("world"))
        desk.answer("judge 0")
        desk.answer("least 0")
        for text in texts[-2::-1]:
            self.assertEqual(desk.answer("undo"), "undone")
            self.assertEqual(desk.answer("world"), text)
        self.assert_raises(desk, UnknownName, "undo")

    def test_two_desks_share_nothing(self):
        one, other = Desk(SHOW_TEXT), Desk(SHOW_TEXT)
        one.answer("good")
        self.assertEqual(other.answer("world"), SHOW_TEXT)
        self.assert_raises(other, UnknownName, "undo")


class Errors(DeskTests):
    def test_texts(self):
        for text, error in (("", BadLine), ("good\n", BadLine), ("role a A", BadLine), ("good\nrole a", BadRole), ("good b a", BadWorld), ("good\nhidden 0 (word hi)", BadClaim)):
            with self.assertRaises(error):
                Desk(text)
        with self.assertRaises(BadLine) as caught:
            Desk("good ann\nrole show A\nsend (mark N)")
        self.assertEqual(caught.exception.line, 3)

    def test_other_forms(self):
        desk = Desk(ATTACKED_TEXT)
        lines = ["world", "judge 0", "least 0", "step ask 0 (box (pair (mark n) (host A)) B)", "session ask ann mal", "drop", "good ann bob", "undo"]
        for line in lines:
            words = line.split(" ")
            others = [" ".join(words[:at] + [""] + words[at:]) for at in range(len(words) + 1)]
            others += [line.upper(), line.capitalize(), line + "\n", "\n" + line, line + "\t", "x" + line, line[1:], line + "."]
            if words[0] not in ("good", "session"):
                others += [line + " x", line + " 0", line + " ann"]
            for other in others:
                self.assert_bad(desk, other)
        for line in ("", " ", "worlds", "judge", "least", "step", "session", "judge x", "hidden 0 (mark m)", "role a A", "send (mark n)", "add", "each ask ask 0"):
            self.assert_bad(desk, line)

    def test_numbers(self):
        desk = Desk(SHOW_TEXT)
        for wrong in ("00", "01", "-1", "+0", "1000000", "0000001", "x", "1.", "(0)", "0 0", "ann", "A"):
            for line in ("judge " + wrong, "least " + wrong, "step show " + wrong + " (mark n)", "step none " + wrong + " (mark n)"):
                self.assert_bad(desk, line)

    def test_names_and_terms(self):
        desk = Desk(SHOW_TEXT)
        for wrong in ("A", "ann1", "abcdefghi", "0", "Ann", "(host"):
            for line in ("good " + wrong, "good ann " + wrong, "session " + wrong, "session show " + wrong, "session " + wrong + " ann", "step " + wrong + " 0 (mark n)"):
                self.assert_bad(desk, line)
        for wrong in ("", " ", "(mark)", "mark n", "(mark n", "(mark 0 n)", "(mark n) (mark n)", "(mark n) ", " (mark n)", "(road 0)", "n", "(pair (mark n)  (mark n))"):
            for line in ("step show 0 " + wrong, "step none 9 " + wrong):
                self.assert_bad(desk, line)
        self.assert_bad(desk, "step show 0")
        self.assert_bad(desk, "step show")
        self.assert_bad(desk, "step show (mark n)")

    def test_bad_lines_come_first(self):
        desk = Desk(SHOW_TEXT)
        for line in ("judge 7 7", "step none 0 (mark N)", "session none Ann", "good bob Ann", "least 99 x"):
            self.assert_bad(desk, line)

    def test_errors_of_the_ward(self):
        desk = Desk(SHOW_TEXT)
        for line, error in (
            ("judge 2", UnknownName), ("judge 999999", UnknownName), ("least 2", UnknownName), ("least 999999", UnknownName), ("step none 0 (mark n)", UnknownName),
            ("step show 1 (mark n)", UnknownName), ("step show 999999 (mark n)", UnknownName), ("step none 0 (own B)", UnknownName), ("step show 0 (own B)", BadRole),
            ("step echo 0 (word hi)", BadRole), ("step show 0 (word hi)", BadClaim), ("session none", BadWorld), ("session none ann", BadWorld), ("session show", BadWorld),
            ("session show ann bob", BadWorld), ("good bob ann", BadWorld), ("good ann ann", BadWorld), ("undo", UnknownName),
        ):
            self.assert_raises(desk, error, line)
        wrong = self.assert_raises(desk, BadRole, "step echo 1 (var y)")
        self.assertEqual((wrong.role, wrong.step), (1, 1))
        desk.answer("drop")
        self.assert_raises(desk, BadClaim, "drop")
        nothing = Desk("good")
        for line in ("drop", "undo", "judge 0", "least 0", "step a 0 (mark n)"):
            self.assert_raises(nothing, UnknownName, line)
        self.assert_raises(nothing, BadWorld, "session a")

    def test_failed_lines_are_no_edits(self):
        desk = Desk(SHOW_TEXT)
        desk.answer("good ann")
        for line in ("good bob ann", "step show 0 (own B)", "undo x", "judge 5"):
            with self.assertRaises(MuffError):
                desk.answer(line)
        self.assertEqual(desk.answer("undo"), "undone")
        self.assertEqual(desk.answer("world"), SHOW_TEXT)

    def test_too_large(self):
        claim = ("hidden", 0, N)
        desk = Desk(write_world(GROWING, (claim,)))
        for line in ("judge 0", "least 0"):
            self.assert_raises(desk, TooLarge, line)
        # judge finds a broken case ahead of what is too large, and least_break unfolds the whole tree.
        shown = world((SHOW,) + GROWING.roles, "show ann", *[" ".join([name, *hosts]) for name, hosts in GROWING.sessions])
        desk = Desk(write_world(shown, (claim,)))
        self.assertEqual(desk.answer("judge 0"), "breaks 0")
        self.assert_raises(desk, TooLarge, "least 0")
        recipes = Desk(write_world(world((doubler(12),), "doubler ann"), (("hidden", 0, ("mark", "z")),)))
        for line in ("judge 0", "least 0"):
            self.assert_raises(recipes, TooLarge, line)

    def test_the_limit(self):
        # The first tree has more than 20000 cases, the second one 17568.
        where = world((ASK, ANSWER), "ask ann mal", "ask ann mal", "answer bob ann", "answer bob ann")
        desk = Desk(write_world(where, (("hidden", 0, N), ("agrees", 0, (), "ask", 0, ()))))
        self.assertEqual(desk.answer("judge 0"), "breaks 0")
        for line in ("least 0", "judge 1"):
            with self.assertRaises(TooLarge):
                desk.answer(line)
        where = world((ASK, ANSWER), "ask ann mal", "answer bob ann", "ask ann bob", "answer bob mal")
        desk = Desk(write_world(where, (("hidden", 0, N),)))
        self.assertEqual(desk.answer("least 0"), "breaks 0")


if __name__ == "__main__":
    unittest.main()
