"""Points [15], [16] and [17]: role terms, sound roles, and the terms of a session."""

import itertools
import random
import unittest

from muffline.errors import BadRole
from muffline.notation import read_role_term as read
from muffline.roles import check_role, is_role_term, place_term, role_depth, role_size
from tests import samples

A, B = ("host", "A"), ("host", "B")
X, Y, Z = ("var", "x"), ("var", "y"), ("var", "z")
N = ("mark", "n")
HI = ("word", "hi")
OWN = ("own", "A")
KEY = ("both", "A", "B")
AB = ("A", "B")


def steps_of(*texts):
    """Steps such as "send (word hi)"."""
    return tuple((text[:4], read(text[5:])) for text in texts)


def fault(role):
    """The step of the error, or None for a sound role."""
    try:
        check_role(role)
    except BadRole as wrong:
        assert wrong.role == -1
        return wrong.step
    return None


def fault_of_steps(*texts, parameters=AB):
    return fault(("alice", parameters, steps_of(*texts)))


def digests(term, many):
    for _ in range(many):
        term = ("digest", term)
    return term


class RoleTerms(unittest.TestCase):
    def test_good_ones(self):
        for text in ("(host A)", "(host ann)", "(word hi)", "(own B)", "(own ann)", "(both A B)", "(both B A)", "(both A ann)",
                     "(both zed ann)", "(both zed A)", "(both B B)", "(mark n)", "(var x)", "(pair (mark n) (var x))",
                     "(lock (mark n) (both B A))", "(digest (host A))", "(box (mark n) B)", "(box (mark n) bob)",
                     "(stamp (mark n) A)", "(stamp (mark n) zed)", "(pair (digest (box (var x) A)) (stamp (word a) B))"):
            self.assertIs(is_role_term(read(text), AB), True, text)

    def test_capitals(self):
        for text in ("(host C)", "(own C)", "(both A C)", "(both C ann)", "(box (word hi) C)", "(stamp (word hi) C)",
                     "(pair (word hi) (digest (host C)))", "(lock (mark n) (both C A))"):
            self.assertIs(is_role_term(read(text), AB), False, text)
            self.assertIs(is_role_term(read(text), ("A", "B", "C")), True, text)
            self.assertIs(is_role_term(read(text), ()), False, text)
        self.assertIs(is_role_term(read("(host ann)"), ()), True)
        self.assertIs(is_role_term(("host", "ABCDEFGH"), ("ABCDEFGH",)), True)
        self.assertIs(is_role_term(("host", "ABCDEFGHI"), ("ABCDEFGHI",)), False)

    def test_other_forms(self):
        for value in (("road", 0), ("mark", 0, "n"), ("var", 0, "x"), ("mark", "N"), ("var", "X"), ("word", "A"), ("mark", 0),
                      ("var", ""), ("host", "aB"), ("host", "Ab"), ("host", ""), ("host", "ninechars"), ("both", "A"),
                      ("both", "A", "B", "A"), ("own",), ("own", OWN), ("box", "A", HI), ("box", HI), ("box", HI, HI),
                      ("stamp", HI, OWN, "A"), ("stamp", HI, 0), ("lock", HI, "A"), ("pair", HI), ("digest", "hi"), ("letter", 0),
                      ("free", HI), (), None, 0, "A", ("A",), ("host", "A", "B"), ("host", None), ("host", 5), ("send", HI)):
            self.assertIs(is_role_term(value, AB), False, value)
            self.assertIs(is_role_term(("digest", value), AB), False, value)
            self.assertIs(is_role_term(("pair", HI, ("lock", value, HI)), AB), False, value)

    def test_values_of_any_form(self):
        for value in samples.BAD_NAMES:
            for kind in ("host", "own", "word", "mark", "var"):
                if not (kind in ("host", "own") and value in ("A", "Z")):
                    self.assertIs(is_role_term((kind, value), ("A", "Z")), False, (kind, value))
            for kind in ("box", "stamp"):
                self.assertIs(is_role_term((kind, HI, value), ("B",)), False, (kind, value))
            self.assertIs(is_role_term(("both", value, "a"), ("B",)), False)
            self.assertIs(is_role_term(("both", "a", value), ("B",)), False)
        deep = ()
        for _ in range(199):
            deep = (deep,)
        self.assertIs(is_role_term(deep, AB), False)
        self.assertIs(is_role_term(digests(deep[0], 2), AB), False)

    def test_deep_ones(self):
        self.assertIs(is_role_term(digests(N, 199), AB), True)
        self.assertIs(is_role_term(digests(("host", "C"), 199), AB), False)

    def test_sizes_and_depths(self):
        for text, count, depth in (
            ("(mark n)", 1, 1), ("(var x)", 1, 1), ("(both A B)", 1, 1), ("(digest (mark n))", 2, 2), ("(box (mark n) A)", 2, 2),
            ("(stamp (var x) A)", 2, 2), ("(pair (mark n) (var x))", 3, 2), ("(lock (digest (mark n)) (both A B))", 4, 3),
            ("(pair (host A) (pair (host A) (digest (host A))))", 6, 4), ("(lock (pair (host A) (host B)) (digest (own A)))", 6, 3),
        ):
            self.assertEqual((role_size(read(text)), role_depth(read(text))), (count, depth), text)
        self.assertEqual((role_size(digests(N, 150)), role_depth(digests(N, 150))), (151, 151))


class Forms(unittest.TestCase):
    """What is wrong with a role without its steps comes first, with the step -1."""

    def test_good_ones(self):
        for role in (("a", ("A",), ()), ("abcdefgh", ("ABCDEFGH", "B", "C", "D"), ()), ("role", AB, steps_of("send (mark n)"))):
            self.assertIsNone(check_role(role))

    def test_no_triples(self):
        for value in (None, 0, "", "role", (), ("a",), ("a", AB), ("a", AB, (), ()), (AB, ()), ("a", AB, None), (None,) * 3,
                      (("a", AB, ()),), ("a", "A", ()), ("a", None, ()), ("a", 0, ()), ("a", AB, "send"), ("a", AB, 0),
                      ("a", (AB,), ())):
            self.assertEqual(fault(value), -1, value)

    def test_names(self):
        for name in samples.BAD_NAMES:
            self.assertEqual(fault((name, AB, ())), -1, name)
            self.assertEqual(fault((name, AB, (None,))), -1, name)

    def test_parameters(self):
        for parameters in ((), ("A", "B", "C", "D", "E"), ("A", "A"), ("A", "B", "A"), ("a",), ("A", "b"), ("",), ("ABCDEFGHI",),
                           ("A", None), (None,), (0,), (("A",),), ("A", ()), ("A1",), ("Ab",), ("A ",), ("A", "B", "C", "B")):
            self.assertEqual(fault(("a", parameters, ())), -1, parameters)
            self.assertEqual(fault(("a", parameters, ((),))), -1, parameters)
        for many in (1, 2, 3, 4):
            self.assertIsNone(fault(("a", ("A", "B", "C", "D")[:many], ())))

    def test_number_of_steps(self):
        step = ("send", N)
        for many in range(7):
            self.assertIsNone(fault(("a", AB, (step,) * many)))
        self.assertEqual(fault(("a", AB, (step,) * 7)), -1)
        self.assertEqual(fault(("a", AB, (None,) * 7)), -1)
        self.assertEqual(fault(("a", AB, (None,) * 6)), 0)

    def test_steps(self):
        good = ("send", N)
        for step in (None, 0, "send", (), ("send",), ("take",), ("send", N, N), (N,), (N, "send"), ("give", N), ("Send", N),
                     ("", N), (None, N), (("send",), N), ("send", None), ("send", 0), ("send", "n"), ("send", ()),
                     ("send", ("mark", 0, "n")), ("send", ("road", 0)), ("send", ("host", "C")), ("take", ("host", "C")),
                     ("send", (N,)), ("take", (N, N)), ("send", ("letter", 0)), ("take", ("box", N, "C"))):
            for at in range(6):
                steps = (good,) * at + (step,) + (good,) * (5 - at)
                self.assertEqual(fault(("a", AB, steps)), at, step)
            self.assertEqual(fault(("a", AB, (good, step, step, None))), 1)

    def test_size_and_depth(self):
        for word in ("send", "take"):
            wide = N
            for _ in range(3):
                wide = ("pair", wide, wide)
            self.assertEqual(role_size(wide), 15)
            for term, count, depth in (
                (digests(N, 7), 8, 8), (digests(N, 8), 9, 9), (("pair", wide, digests(N, 6)), 23, 8),
                (("pair", wide, ("pair", wide[1], ("pair", wide[1][1], N))), 29, 5),
                (("pair", wide, ("pair", wide[1], ("pair", wide[1][1], ("digest", N)))), 30, 5),
                (("pair", wide, ("pair", wide[1], ("pair", wide[1][1], digests(N, 2)))), 31, 6),
                (("pair", wide, wide), 31, 5), (("pair", N, digests(N, 7)), 10, 9),
            ):
                self.assertEqual((role_size(term), role_depth(term)), (count, depth))
                expected = None if count <= 30 and depth <= 8 else 1
                self.assertEqual(fault(("a", AB, (("send", N), (word, term)))), expected, term)
        self.assertEqual(fault(("a", AB, (("send", digests(N, 198)),))), 0)
        wide = N
        for _ in range(10):
            wide = ("pair", wide, wide)
        self.assertEqual(fault(("a", AB, (("take", wide),))), 0)


class Keys(unittest.TestCase):
    def test_private_halves(self):
        for word in ("send", "take"):
            self.assertIsNone(fault_of_steps(word + " (own A)"))
            self.assertIsNone(fault_of_steps(word + " (lock (mark n) (own A))"))
            for host in ("B", "ann"):
                self.assertEqual(fault_of_steps(word + " (own " + host + ")"), 0)
                self.assertEqual(fault_of_steps("send (mark n)", word + " (lock (mark n) (digest (own " + host + ")))"), 1)
        self.assertIsNone(fault_of_steps("send (own B)", parameters=("B", "A")))

    def test_keys_of_two_hosts(self):
        for word in ("send", "take"):
            for names in ("A B", "B A", "A A", "A ann", "ann A"):
                self.assertIsNone(fault_of_steps(word + " (both " + names + ")"), names)
                self.assertIsNone(fault_of_steps(word + " (lock (mark n) (both " + names + "))"), names)
            for names in ("B B", "B ann", "ann B", "ann bob", "ann ann"):
                self.assertEqual(fault_of_steps(word + " (both " + names + ")"), 0, names)
                self.assertEqual(fault_of_steps("send (host A)", word + " (digest (both " + names + "))"), 1, names)

    def test_a_name_is_not_the_first_parameter(self):
        self.assertEqual(fault(("a", ("A",), (("send", ("own", "a")),))), 0)


class Sending(unittest.TestCase):
    def test_what_a_host_can_make(self):
        for term in ("(host A)", "(host B)", "(host zed)", "(word hi)", "(mark n)", "(own A)", "(both A B)", "(both zed A)",
                     "(pair (mark n) (host B))", "(lock (mark n) (mark m))", "(lock (mark n) (both A A))", "(digest (mark n))",
                     "(box (mark n) B)", "(box (own A) zed)", "(stamp (mark n) A)", "(stamp (stamp (mark n) A) A)",
                     "(lock (stamp (box (mark n) B) A) (digest (pair (both B A) (word hi))))"):
            self.assertIsNone(fault_of_steps("send " + term), term)

    def test_stamps_of_others(self):
        for host in ("B", "zed", "ann"):
            self.assertEqual(fault_of_steps("send (stamp (mark n) " + host + ")"), 0)
            self.assertEqual(fault_of_steps("send (host A)", "send (digest (lock (mark n) (stamp (word hi) " + host + ")))"), 1)
            self.assertIsNone(fault_of_steps("take (stamp (mark n) " + host + ")"), host)

    def test_a_stamp_that_was_taken_is_passed_on_as_a_variable_alone(self):
        self.assertIsNone(fault_of_steps("take (var x)", "send (var x)"))
        self.assertEqual(fault_of_steps("take (stamp (word hi) B)", "send (stamp (word hi) B)"), 1)
        self.assertEqual(fault_of_steps("take (stamp (var x) B)", "send (stamp (var x) B)"), 1)
        self.assertIsNone(fault_of_steps("take (stamp (var x) B)", "send (stamp (var x) A)"))

    def test_variables(self):
        self.assertEqual(fault_of_steps("send (var x)"), 0)
        self.assertEqual(fault_of_steps("send (mark n)", "send (lock (mark n) (var x))", "take (var x)"), 1)
        self.assertIsNone(fault_of_steps("take (var x)", "send (lock (var x) (digest (var x)))"))
        self.assertEqual(fault_of_steps("take (var x)", "send (pair (var x) (var y))"), 1)
        self.assertIsNone(fault_of_steps("take (var x)", "take (var y)", "send (pair (var y) (var x))"))
        self.assertIsNone(fault_of_steps("take (lock (var x) (both A B))", "send (var x)"))
        self.assertEqual(fault_of_steps("take (var x)", "send (var xx)"), 1)

    def test_the_least_wrong_step(self):
        self.assertEqual(fault_of_steps("send (mark n)", "send (var x)", "send (own B)"), 1)
        self.assertEqual(fault_of_steps("send (own B)", "send (var x)"), 0)
        self.assertEqual(fault(("a", AB, (("send", X), None))), 0)
        self.assertEqual(fault(("a", AB, (("send", N), None, ("send", X)))), 1)
        self.assertEqual(fault(("a", AB, (("take", ("digest", X)), ("send", ("own", "B"))))), 0)


class Taking(unittest.TestCase):
    def test_examples(self):
        self.assertEqual(fault_of_steps("take (lock (var x) (var y))"), 0)
        self.assertIsNone(fault_of_steps("take (pair (var y) (lock (var x) (var y)))"))

    def test_what_is_open(self):
        for term in ("(var x)", "(pair (var x) (mark n))", "(pair (mark n) (var x))", "(stamp (var x) A)", "(stamp (var x) B)",
                     "(stamp (var x) zed)", "(box (var x) A)", "(lock (var x) (both A B))", "(lock (var x) (both zed A))",
                     "(lock (var x) (own A))", "(lock (var x) (mark n))", "(lock (var x) (word hi))", "(lock (var x) (host B))",
                     "(lock (var x) (digest (pair (mark n) (both B A))))", "(lock (var x) (box (mark n) B))",
                     "(lock (var x) (stamp (mark n) A))", "(box (stamp (lock (pair (var x) (var y)) (both A B)) B) A)",
                     "(pair (lock (var x) (digest (var y))) (lock (var y) (digest (mark n))))",
                     "(pair (var x) (digest (var x)))", "(pair (box (var x) B) (var x))", "(lock (var x) (box (host A) zed))"):
            self.assertIsNone(fault_of_steps("take " + term), term)

    def test_what_is_shut(self):
        for term in ("(digest (var x))", "(box (var x) B)", "(box (var x) ann)", "(lock (mark n) (var x))", "(lock (var x) (var x))",
                     "(lock (var x) (digest (var y)))", "(pair (lock (var x) (var y)) (lock (var y) (var x)))",
                     "(lock (var x) (stamp (mark n) B))", "(lock (var x) (stamp (word hi) zed))", "(box (var x) B)",
                     "(pair (box (var x) B) (digest (var x)))", "(lock (lock (var x) (stamp (word hi) B)) (both A B))"):
            self.assertEqual(fault_of_steps("take " + term), 0, term)

    def test_only_variables_must_be_open(self):
        for term in ("(digest (mark n))", "(box (mark n) B)", "(lock (mark n) (stamp (word hi) B))", "(stamp (mark n) zed)"):
            self.assertIsNone(fault_of_steps("take " + term), term)

    def test_keys_that_are_there_otherwise(self):
        self.assertIsNone(fault_of_steps("take (pair (stamp (word hi) B) (lock (var x) (stamp (word hi) B)))"))
        self.assertEqual(fault_of_steps("take (pair (stamp (word ha) B) (lock (var x) (stamp (word hi) B)))"), 0)
        self.assertIsNone(fault_of_steps("take (pair (stamp (both A B) B) (lock (var x) (stamp (both B A) B)))"))
        self.assertIsNone(fault_of_steps("take (pair (stamp (both zed A) B) (lock (var x) (stamp (both A zed) B)))"))
        self.assertEqual(fault_of_steps("take (pair (digest (stamp (word hi) B)) (lock (var x) (stamp (word hi) B)))"), 0)

    def test_what_was_taken_before(self):
        self.assertIsNone(fault_of_steps("take (var y)", "take (lock (var x) (var y))"))
        self.assertIsNone(fault_of_steps("take (var y)", "take (digest (var y))"))
        self.assertIsNone(fault_of_steps("take (var y)", "take (box (var y) B)", "send (var y)"))
        self.assertEqual(fault_of_steps("take (var y)", "take (lock (var x) (var z))"), 1)
        self.assertIsNone(fault_of_steps("take (lock (var k) (both A B))", "take (lock (var x) (digest (var k)))", "send (var x)"))
        # Only what is known and the letter itself count, and no other letter taken before.
        self.assertEqual(fault_of_steps("take (stamp (word hi) B)", "take (lock (var x) (stamp (word hi) B))"), 1)
        self.assertEqual(fault_of_steps("take (digest (var y))", "take (var y)"), 0)

    def test_marks_are_known_ahead(self):
        self.assertIsNone(fault_of_steps("take (lock (var x) (mark n))", "send (mark n)"))

    def test_longer_roles(self):
        self.assertIsNone(fault_of_steps(
            "send (box (pair (mark n) (host A)) B)", "take (box (pair (mark n) (pair (var x) (host B))) A)",
            "send (box (var x) B)", "take (lock (var y) (digest (pair (mark n) (var x))))", "send (lock (var y) (var x))",
            "take (stamp (pair (var z) (var y)) B)"))


class Placing(unittest.TestCase):
    def place(self, text, hosts=("zed", "bob"), session=3):
        return place_term(read(text), AB, hosts, session)

    def test_each_form(self):
        for text, term in (
            ("(host A)", ("host", "zed")), ("(host B)", ("host", "bob")), ("(host ann)", ("host", "ann")), ("(word hi)", HI),
            ("(own A)", ("own", "zed")), ("(own ann)", ("own", "ann")), ("(mark n)", ("mark", 3, "n")), ("(var x)", ("var", 3, "x")),
            ("(pair (mark n) (host A))", ("pair", ("mark", 3, "n"), ("host", "zed"))),
            ("(lock (var x) (own A))", ("lock", ("var", 3, "x"), ("own", "zed"))), ("(digest (mark n))", ("digest", ("mark", 3, "n"))),
            ("(box (mark n) B)", ("box", ("mark", 3, "n"), "bob")), ("(box (mark n) ann)", ("box", ("mark", 3, "n"), "ann")),
            ("(stamp (host B) A)", ("stamp", ("host", "bob"), "zed")), ("(stamp (word hi) ann)", ("stamp", HI, "ann")),
        ):
            self.assertEqual(self.place(text), term)

    def test_names_of_both_in_order(self):
        for text in ("(both A B)", "(both B A)"):
            self.assertEqual(self.place(text), ("both", "bob", "zed"))
            self.assertEqual(self.place(text, ("bob", "zed")), ("both", "bob", "zed"))
            self.assertEqual(self.place(text, ("bob", "bob")), ("both", "bob", "bob"))
            self.assertEqual(self.place(text, ("bob", "bo")), ("both", "bo", "bob"))
        self.assertEqual(self.place("(both A carl)"), ("both", "carl", "zed"))
        self.assertEqual(self.place("(both zed ann)"), ("both", "ann", "zed"))
        self.assertEqual(self.place("(lock (both B A) (digest (both A ann)))"),
                         ("lock", ("both", "bob", "zed"), ("digest", ("both", "ann", "zed"))))

    def test_one_host_for_several_capitals(self):
        term = place_term(read("(pair (both A B) (box (host C) B))"), ("A", "B", "C"), ("ann", "ann", "ann"), 0)
        self.assertEqual(term, ("pair", ("both", "ann", "ann"), ("box", ("host", "ann"), "ann")))

    def test_hosts_that_look_like_other_things(self):
        term = place_term(read("(pair (word a) (pair (mark a) (pair (var a) (host A))))"), ("A",), ("a",), 9)
        self.assertEqual(term, ("pair", ("word", "a"), ("pair", ("mark", 9, "a"), ("pair", ("var", 9, "a"), ("host", "a")))))
        self.assertEqual(place_term(read("(box (host B) A)"), AB, ("box", "host"), 0), ("box", ("host", "host"), "box"))

    def test_deep_ones(self):
        self.assertEqual(place_term(digests(N, 150), AB, ("ann", "bob"), 1), digests(("mark", 1, "n"), 150))

    def test_parameter_names(self):
        self.assertEqual(place_term(term=A, capitals=AB, hosts=("ann", "bob"), session=0), ("host", "ann"))
        self.assertIs(is_role_term(value=A, capitals=AB), True)
        self.assertEqual((role_size(term=A), role_depth(term=A)), (1, 1))
        self.assertIsNone(check_role(role=("a", AB, ())))


def known_or_free(term, player, known):
    """Whether a host can make a role term, by the words of point [16], without opening anything."""
    kind = term[0]
    if kind in ("host", "word", "mark"):
        return True
    if kind == "own":
        return term[1] == player
    if kind == "both":
        return player in term[1:]
    if kind == "var":
        return term in known
    if canonical(term) in [canonical(item) for item in known]:
        return True
    if kind == "stamp" and term[2] != player:
        return False
    return all(known_or_free(item, player, known) for item in term[1:] if isinstance(item, tuple))


def canonical(term):
    if term[0] == "both":
        return ("both", *sorted(term[1:]))
    return tuple(canonical(item) if isinstance(item, tuple) else item for item in term)


def plain_fault(parameters, steps):
    known = []
    player = parameters[0]
    for at, (word, term) in enumerate(steps):
        atoms = [part for part in all_in(term)]
        if any(part[0] == "own" and part[1] != player or part[0] == "both" and player not in part[1:] for part in atoms):
            return at
        if word == "send":
            if not known_or_free(term, player, known):
                return at
            continue
        there = known + [term]
        for _ in range(40):
            for part in list(there):
                if part[0] == "pair":
                    there += [part[1], part[2]]
                elif part[0] == "stamp" or part[0] == "box" and part[2] == player:
                    there.append(part[1])
                elif part[0] == "lock" and known_or_free(part[2], player, there):
                    there.append(part[1])
            there = [part for place, part in enumerate(there) if part not in there[:place]]
        if any(part[0] == "var" and part not in there for part in all_in(term)):
            return at
        known += [part for part in all_in(term) if part[0] == "var"]
    return None


def all_in(term):
    found = [term]
    for item in term:
        if isinstance(item, tuple):
            found += all_in(item)
    return found


class ByChance(unittest.TestCase):
    def test_same_as_plain(self):
        chance = random.Random(51)
        faults = {}
        for _ in range(3000):
            steps = tuple((chance.choice(("send", "take")), role_term_by_chance(chance, 3)) for _ in range(3))
            expected = plain_fault(AB, steps)
            faults[expected] = faults.get(expected, 0) + 1
            self.assertEqual(fault(("a", AB, steps)), expected, steps)
        self.assertTrue(all(faults.get(key, 0) > 50 for key in (0, 1, 2, None)), faults)


def role_term_by_chance(chance, depth):
    kind = chance.choice(("atom", "pair", "pair", "lock", "lock", "digest", "box", "stamp")) if depth else "atom"
    if kind == "atom":
        return chance.choice((A, N, X, X, Y, Y, HI, OWN, KEY, ("both", "B", "A")))
    inner = [role_term_by_chance(chance, depth - 1) for _ in range(2 if kind in ("pair", "lock") else 1)]
    return (kind, *inner, *([chance.choice(("A", "A", "B"))] if kind in ("box", "stamp") else []))


class General(unittest.TestCase):
    def test_all_orders_of_capitals(self):
        for parameters in itertools.permutations(("A", "B", "C")):
            term = ("own", "B")
            self.assertEqual(fault(("a", parameters, (("send", term),))), None if parameters[0] == "B" else 0)


if __name__ == "__main__":
    unittest.main()
