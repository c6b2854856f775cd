"""Point [44]: worlds and claims as texts."""

import random
import unittest

from muffline.claims import check_claim
from muffline.errors import BadClaim, BadLine, BadRole, BadWorld, MuffError
from muffline.texts import read_world, write_world
from muffline.worlds import World
from tests import chance_worlds
from tests.test_cases import LARGER, M, N, SMALL, X, Y
from tests.test_mends import ATTACKED, SECRET
from tests.worlds import ECHO, GIVE, IDLE, SHOW, role, world

ATTACKED_TEXT = """good ann bob
role ask A B
send (box (pair (mark n) (host A)) B)
take (box (pair (mark n) (var x)) A)
send (box (var x) B)
role answer B A
take (box (pair (var y) (host A)) B)
send (box (pair (var y) (mark m)) A)
take (box (mark m) B)
session ask ann mal
session answer bob ann
hidden 1 (mark m)
agrees 1 ask 3 (var y) (mark n) (mark m) (var x)
each answer ask 2 (host A) (host A)
each ask ask 0
agrees 0 answer 3"""
ATTACKED_CLAIMS = (
    SECRET, ("agrees", 1, (Y, M), "ask", 3, (N, X)), ("each", "answer", (("host", "A"),), "ask", 2, (("host", "A"),)),
    ("each", "ask", (), "ask", 0, ()), ("agrees", 0, (), "answer", 3, ()),
)
LINES = ATTACKED_TEXT.split("\n")


def shape(where):
    return (where.roles, where.sessions, where.good)


class Writing(unittest.TestCase):
    def test_a_world_with_claims(self):
        self.assertEqual(write_world(ATTACKED, ATTACKED_CLAIMS), ATTACKED_TEXT)
        self.assertEqual(write_world(world=ATTACKED, claims=()), "\n".join(LINES[:11]))

    def test_nothing(self):
        self.assertEqual(write_world(world((), good=()), ()), "good")
        self.assertEqual(write_world(world((), good=("a", "zed")), ()), "good a zed")

    def test_roles_without_steps(self):
        self.assertEqual(write_world(world((IDLE, SHOW, ("last", ("ABCDEFGH", "X", "Y", "Z"), ())), "idle ann", good=()), ()),
                         "good\nrole idle A\nrole show A\nsend (mark n)\nrole last ABCDEFGH X Y Z\nsession idle ann")

    def test_roles_without_sessions(self):
        self.assertEqual(write_world(world((GIVE,)), (("each", "give", (N,), "give", 1, (N,)),)),
                         "good ann bob\nrole give A B\nsend (lock (mark n) (both A B))\neach give give 1 (mark n) (mark n)")

    def test_the_order_in_both_stays(self):
        where = world((role("r", "send (lock (mark n) (both B A))", "send (digest (both ann A))"),), "r zed bob")
        self.assertEqual(write_world(where, ()).split("\n")[2:4], ["send (lock (mark n) (both B A))", "send (digest (both ann A))"])


class Reading(unittest.TestCase):
    def check(self, where, claims):
        text = write_world(where, claims)
        found, read_claims = read_world(text)
        self.assertIsInstance(found, World)
        self.assertEqual((shape(found), read_claims), (shape(where), claims))
        self.assertEqual(write_world(found, read_claims), text)

    def test_what_was_written(self):
        self.check(ATTACKED, ATTACKED_CLAIMS)
        for where, claim in SMALL + LARGER:
            self.check(where, (claim,))
            self.check(where, (claim, claim))
            self.check(where, ())
        self.check(world((), good=()), ())
        self.check(world((IDLE, ECHO), good=()), (("each", "idle", (), "echo", 2, ()),))
        found, claims = read_world(text=ATTACKED_TEXT)
        self.assertEqual((shape(found), claims), (shape(ATTACKED), ATTACKED_CLAIMS))

    def test_by_chance(self):
        chance = random.Random(151)
        for _ in range(150):
            where = chance_worlds.world(chance, 3, 3, 3)
            claims = tuple(claim for claim in [chance_worlds.claim(chance, where) for _ in range(3)] if claim)
            self.check(where, claims)

    def test_the_claims_are_in_their_order(self):
        head = "\n".join(LINES[:11])
        for lines in (LINES[11:][::-1], LINES[13:] + LINES[11:13], [LINES[11], LINES[14], LINES[11]]):
            _, claims = read_world(head + "\n" + "\n".join(lines))
            self.assertEqual(claims, tuple(ATTACKED_CLAIMS[LINES.index(line) - 11] for line in lines))


class BadLines(unittest.TestCase):
    def assert_bad(self, text, line):
        with self.assertRaises(BadLine) as caught:
            read_world(text)
        self.assertEqual(caught.exception.line, line, text)

    def spoil(self, at, line):
        """Put another line in the place of a line of the text, numbered from 0."""
        self.assert_bad("\n".join(LINES[:at] + [line] + LINES[at + 1:]), at + 1)
        self.assert_bad("\n".join(LINES[:at] + [line]), at + 1)

    def test_a_text_without_lines(self):
        self.assert_bad("", 1)

    def test_empty_lines(self):
        for at in range(len(LINES) + 1):
            self.assert_bad("\n".join(LINES[:at] + [""] + LINES[at:]), at + 1)
            self.assert_bad("\n".join(LINES[:at] + [" "] + LINES[at:]), at + 1)
        self.assert_bad(ATTACKED_TEXT + "\n", len(LINES) + 1)
        self.assert_bad("\n" + ATTACKED_TEXT, 1)
        self.assert_bad("good\n", 2)
        self.assert_bad("\n", 1)

    def test_empty_words(self):
        for at, line in enumerate(LINES):
            words = line.split(" ")
            for place in range(len(words) + 1):
                self.spoil(at, " ".join(words[:place] + [""] + words[place:]))
        self.spoil(0, "good ")
        self.spoil(9, "session ")
        self.assert_bad("good\nrole ", 2)

    def test_other_words_and_signs(self):
        for at, line in enumerate(LINES):
            for other in (line.upper(), line.capitalize(), "x" + line, line[1:], line + ".", line + " 0", line.replace(" ", "\t"), line.replace(" ", ","), line + "\r",
                          line.split(" ")[0] + "s" + line[len(line.split(" ")[0]):], " " + line, line + " "):
                self.spoil(at, other)
        for at in range(len(LINES)):
            for other in ("world", "judge 0", "undo", "step ask 0 (mark n)", "drop", "(mark n)", "claim", "#", "broken 0 (mark n)"):
                self.spoil(at, other)

    def test_places(self):
        forms = {line.split(" ")[0]: line for line in LINES}
        self.assertEqual(len(forms), 8)
        allowed = {
            "good": ("role", "session", "hidden", "agrees", "each"), "session": ("session", "hidden", "agrees", "each"),
            "hidden": ("hidden", "agrees", "each"), "agrees": ("hidden", "agrees", "each"), "each": ("hidden", "agrees", "each"),
        }
        for kind in ("role", "send", "take"):
            allowed[kind] = ("role", "send", "take", "session", "hidden", "agrees", "each")
        for at, line in enumerate(LINES):
            for kind, form in forms.items():
                text = "\n".join(LINES[:at + 1] + [form])
                if kind in allowed[line.split(" ")[0]]:
                    try:
                        read_world(text)
                    except BadLine:
                        self.fail((line, form))
                    except MuffError:
                        pass
                else:
                    self.assert_bad(text, at + 2)
        for kind, form in forms.items():
            if kind != "good":
                self.assert_bad(form, 1)
                self.assert_bad(form + "\n" + ATTACKED_TEXT, 1)
        self.assert_bad("good ann\ngood bob", 2)
        self.assert_bad("good\nsend (mark n)", 2)
        self.assert_bad("good\nsession a b\ntake (mark n)", 3)
        self.assert_bad("good\nrole idle A\nsession idle ann\nrole show A", 4)

    def test_names_and_capitals(self):
        for wrong in ("A", "ann1", "abcdefghi", "1", "a-b", "(host", "Ann", "AB"):
            for line in ("good " + wrong, "good ann " + wrong, "good " + wrong + " ann"):
                self.spoil(0, line)
            self.spoil(1, "role " + wrong + " A")
            self.spoil(9, "session " + wrong + " ann mal")
            self.spoil(9, "session ask " + wrong + " mal")
            self.spoil(9, "session ask ann " + wrong)
            self.spoil(12, "agrees 1 " + wrong + " 3")
            self.spoil(13, "each " + wrong + " ask 2")
            self.spoil(13, "each ask " + wrong + " 2")
        for wrong in ("a", "A1", "ABCDEFGHI", "1", "Ab", "(host"):
            for line in ("role ask " + wrong, "role ask A " + wrong, "role ask " + wrong + " A"):
                self.spoil(1, line)
        for line in ("role", "session", "hidden", "hidden 0", "agrees", "agrees 0", "agrees 0 ask", "each", "each ask", "each ask ask", "send", "take"):
            at = {"role": 1, "session": 9, "send": 2, "take": 3}.get(line.split(" ")[0], 12)
            self.spoil(at, line)

    def test_numbers(self):
        for wrong in ("00", "01", "000001", "1000000", "0000000", "12345678", "-1", "+1", "1.", "1e3", "x", "0x1", "1_0", "one", "(mark"):
            self.spoil(11, "hidden " + wrong + " (mark m)")
            self.spoil(12, "agrees " + wrong + " ask 3")
            self.spoil(12, "agrees 1 ask " + wrong)
            self.spoil(13, "each ask ask " + wrong)
        head = "\n".join(LINES[:11]) + "\n"
        for good in ("4", "10", "999999", "100000"):
            for line in ("hidden " + good + " (mark m)", "agrees " + good + " ask 3", "agrees 1 ask " + good, "each ask ask " + good):
                with self.assertRaises(BadClaim):
                    read_world(head + line)

    def test_role_terms(self):
        for wrong in ("mark n", "(mark n", "mark", "(mark 0 n)", "(road 0)", "(var 1 x)", "((mark n))", "(mark n))", "(mark N)", "(host Ann)", "(pair (mark n))",
                      "(pair  (mark n) (mark n))", "(mark n) (mark n)", "(mark n)(mark n)", "n", "0", "(letter 0)", "(mark n).", "()", "(both A)", "(mark abcdefghi)"):
            self.spoil(2, "send " + wrong)
            self.spoil(3, "take " + wrong)
            self.spoil(11, "hidden 1 " + wrong)
            if wrong != "(mark n) (mark n)":
                self.spoil(12, "agrees 1 ask 3 (mark m) " + wrong)
                self.spoil(12, "agrees 1 ask 3 " + wrong + " (mark n)")
                self.spoil(13, "each answer ask 3 (mark m) " + wrong)

    def test_an_odd_number_of_terms(self):
        for many in (1, 3, 5, 7):
            terms = " (mark n)" * many
            self.spoil(12, "agrees 1 ask 3" + terms)
            self.spoil(13, "each answer ask 3" + terms)
        self.spoil(12, "agrees 1 ask 3 (pair (mark m) (mark n))")
        head = "\n".join(LINES[:11]) + "\n"
        for many in (0, 2, 4, 6):
            self.assertEqual(len(read_world(head + "agrees 1 ask 3" + " (host A) (host B)" * (many // 2))[1][0][2]), many // 2)

    def test_the_first_bad_line_counts(self):
        for first in range(len(LINES)):
            for second in range(first + 1, len(LINES)):
                self.assert_bad("\n".join(LINES[:first] + ["x"] + LINES[first + 1:second] + [""] + LINES[second + 1:]), first + 1)

    def test_bad_lines_come_first(self):
        # Each text has a role that is not sound, a session without a role, and a claim that does not fit.
        text = "good zed ann\nrole ask\nsend (own B)\nsession none\nhidden 7 (mark q)"
        with self.assertRaises(BadRole):
            read_world(text)
        self.assert_bad(text + "\nhidden", 6)
        self.assert_bad("good Zed ann\nrole ask\nsend (own B)", 1)


class OtherErrors(unittest.TestCase):
    def assert_role(self, text, at, step):
        with self.assertRaises(BadRole) as caught:
            read_world(text)
        self.assertEqual((caught.exception.role, caught.exception.step), (at, step))

    def test_bad_roles(self):
        self.assert_role("good\nrole ask", 0, -1)
        self.assert_role("good\nrole ask A A", 0, -1)
        self.assert_role("good\nrole ask A B C D E", 0, -1)
        self.assert_role("good\nrole ask A\nsend (host B)", 0, 0)
        self.assert_role("good\nrole ask A\nsend (host A)\nrole tell A\ntake (var x)\nsend (own B)", 1, 1)
        self.assert_role("good\nrole ask A" + "\nsend (mark n)" * 7, 0, -1)
        self.assert_role("good\nrole ask A\nsend " + "(digest " * 8 + "(mark n)" + ")" * 8, 0, 0)
        self.assert_role("good\nrole ask A\nsend " + "(digest " * 29 + "(mark n)" + ")" * 29, 0, 0)
        self.assert_role("good bob ann\nrole ask\nsession none\nhidden 3 (mark n)", 0, -1)

    def test_bad_worlds(self):
        for text in (
            "good bob ann", "good ann ann", "good\nsession none ann", "good\nrole idle A\nsession idle", "good\nrole idle A\nsession idle ann bob",
            "good\nrole idle A\nrole idle A", "good" + "".join("\nrole " + name + " A" for name in "abcde"), "good\nrole idle A" + "\nsession idle ann" * 5,
            "good\nsession none\nhidden 0 (mark n)", "good bob ann\nrole idle A\nhidden 0 (mark n)",
            "good\nrole six A" + "\nsend (mark n)" * 6 + "\nsession six ann" * 3,
        ):
            with self.assertRaises(BadWorld):
                read_world(text)

    def test_bad_claims(self):
        head = "\n".join(LINES[:11]) + "\n"
        for line in ("hidden 2 (mark m)", "hidden 0 (mark m)", "hidden 1 (host C)", "agrees 1 none 0", "agrees 1 ask 4", "each none ask 0", "each ask ask 3 (mark n) (mark m)",
                     "hidden 1 (own A)", "agrees 5 ask 0", "hidden 999999 (mark m)"):
            for text in (head + line, ATTACKED_TEXT + "\n" + line, head + line + "\n" + line):
                with self.assertRaises(BadClaim):
                    read_world(text)
        with self.assertRaises(BadClaim):
            read_world("good\nhidden 0 (word hi)")

    def test_claims_are_as_check_claim_says(self):
        head, where = "\n".join(LINES[:11]) + "\n", ATTACKED
        for claim, line in zip(ATTACKED_CLAIMS, LINES[11:]):
            check_claim(where, claim)
            self.assertEqual(read_world(head + line)[1], (claim,))


if __name__ == "__main__":
    unittest.main()
