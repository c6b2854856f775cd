"""Points [5], [6], [8] and [15]: writing and reading terms, role terms and recipes."""

import unittest

from muffline.errors import BadText, MuffError
from muffline.notation import read_recipe, read_role_term, read_term, write_term
from muffline.terms import is_term, key_of
from tests import samples
from tests.oracle import Reading

READERS = {"t": read_term, "q": read_role_term, "r": read_recipe}


def plain_written(value):
    if isinstance(value, tuple):
        return "(" + " ".join([plain_written(item) for item in value]) + ")"
    return str(value)


def levels_of(value):
    return 1 + max([levels_of(item) for item in value if isinstance(item, tuple)], default=0)


def wrong_at(reader, text):
    """The attribute at of the BadText that a reader raises, or None if it raises none."""
    try:
        reader(text)
    except BadText as wrong:
        return wrong.at
    return None


ROLE_TERMS = (
    ("host", "A"), ("host", "ann"), ("host", "ABCDEFGH"), ("host", "abcdefgh"), ("own", "A"), ("own", "ann"),
    ("both", "A", "B"), ("both", "B", "A"), ("both", "A", "A"), ("both", "ann", "A"), ("both", "A", "ann"),
    ("both", "bob", "ann"), ("both", "ann", "bob"), ("both", "ZZZZZZZZ", "a"), ("word", "hi"), ("mark", "n"),
    ("mark", "abcdefgh"), ("var", "x"), ("var", "zzzzzzzz"), ("pair", ("mark", "n"), ("var", "x")),
    ("lock", ("var", "x"), ("both", "A", "B")), ("digest", ("host", "A")), ("box", ("mark", "n"), "B"),
    ("box", ("mark", "n"), "bob"), ("stamp", ("var", "x"), "A"), ("stamp", ("var", "x"), "ann"),
    ("stamp", ("box", ("pair", ("digest", ("word", "go")), ("own", "A")), "B"), "A"),
)
LETTER = ("letter", 0)
FREE = ("free", ("host", "ann"))
RECIPES = (
    LETTER, ("letter", 9), ("letter", 10), ("letter", 39), ("letter", 100000), ("letter", 999999), FREE,
    ("free", ("word", "hi")), ("free", ("road", 0)), ("free", ("road", 999999)), ("free", ("own", "mal")),
    ("free", ("both", "ann", "mal")), ("free", ("both", "a", "a")), ("free", ("mark", 0, "n")),
    ("free", ("mark", 9, "zzzzzzzz")), ("pair", LETTER, FREE), ("lock", FREE, LETTER), ("digest", FREE),
    ("box", LETTER, "ann"), ("stamp", FREE, LETTER, "mal"), ("left", LETTER), ("right", LETTER),
    ("unstamp", LETTER, "ann"), ("unlock", LETTER, FREE), ("unbox", LETTER, FREE, "mal"),
    ("unlock", ("left", ("unbox", ("letter", 3), ("free", ("own", "mal")), "mal")), ("right", ("unstamp", LETTER, "a"))),
)


class Writing(unittest.TestCase):
    def test_terms(self):
        self.assertEqual(write_term(("pair", ("host", "ann"), ("mark", 0, "n"))), "(pair (host ann) (mark 0 n))")
        for term in samples.good_terms():
            self.assertEqual(write_term(term), plain_written(term))
            self.assertEqual(write_term(term), key_of(term))

    def test_deep_terms(self):
        for wrap in samples.WRAPS:
            term = samples.deep(samples.VAR, 199, (wrap,))
            self.assertEqual(write_term(term), plain_written(term))

    def test_role_terms(self):
        self.assertEqual(write_term(("box", ("mark", "n"), "B")), "(box (mark n) B)")
        for term in ROLE_TERMS:
            self.assertEqual(write_term(term), plain_written(term))

    def test_recipes(self):
        recipe = ("unlock", ("letter", 0), ("free", ("word", "hi")))
        self.assertEqual(write_term(recipe), "(unlock (letter 0) (free (word hi)))")
        recipe = ("stamp", ("letter", 12), ("free", ("own", "mal")), "mal")
        self.assertEqual(write_term(recipe), "(stamp (letter 12) (free (own mal)) mal)")
        for recipe in RECIPES:
            self.assertEqual(write_term(recipe), plain_written(recipe))

    def test_deep_recipes(self):
        recipe = FREE
        for _ in range(198):
            recipe = ("left", recipe)
        self.assertEqual(write_term(recipe), "(left " * 198 + "(free (host ann))" + ")" * 198)

    def test_parameter_names(self):
        self.assertEqual(write_term(term=LETTER), "(letter 0)")
        self.assertEqual(read_term(text="(word hi)"), ("word", "hi"))
        self.assertEqual(read_role_term(text="(mark n)"), ("mark", "n"))
        self.assertEqual(read_recipe(text="(letter 0)"), LETTER)


class ReadBack(unittest.TestCase):
    def test_terms(self):
        for term in samples.good_terms():
            found = read_term(plain_written(term))
            self.assertEqual(found, term)
            self.assertIs(is_term(found), True)

    def test_role_terms(self):
        for term in ROLE_TERMS:
            self.assertEqual(read_role_term(plain_written(term)), term)

    def test_recipes(self):
        for recipe in RECIPES:
            self.assertEqual(read_recipe(plain_written(recipe)), recipe)

    def test_thirty_levels(self):
        for wrap in samples.WRAPS:
            term = samples.deep(samples.MARK, 29, (wrap,))
            self.assertEqual(levels_of(term), 30)
            self.assertEqual(read_term(plain_written(term)), term)

    def test_large(self):
        term = samples.doubled(("digest", ("var", 0, "x")), 9)
        self.assertEqual(read_term(plain_written(term)), term)

    def test_equal_calls(self):
        self.assertEqual(read_term("(digest (word hi))"), read_term("(digest (word hi))"))
        self.assertEqual(wrong_at(read_term, "(digest (ward hi))"), wrong_at(read_term, "(digest (ward hi))"))


class WrongPlaces(unittest.TestCase):
    """Cases that the document speaks of, each with its index worked out by hand."""

    def check(self, reader, cases):
        for text, at in cases:
            with self.subTest(text):
                self.assertEqual(wrong_at(reader, text), at)

    def test_the_error_is_one_of_the_program(self):
        with self.assertRaises(MuffError):
            read_term("")

    def test_empty_and_cut(self):
        for reader in READERS.values():
            self.check(reader, (("", 0), ("(", 1), ("(d", 2), ("(digest", 7), ("(digest ", 8), ("(digest (", 9)))
        text = "(pair (lock (both a b) (road 120)) (stamp (mark 3 n) ann))"
        self.check(read_term, [(text[:end], end) for end in range(len(text))])
        text = "(pair (lock (both B a) (mark n)) (stamp (own B) ANN))"
        self.check(read_role_term, [(text[:end], end) for end in range(len(text))])
        text = "(unlock (letter 120) (unbox (letter 0) (free (own mal)) mal))"
        self.check(read_recipe, [(text[:end], end) for end in range(len(text))])

    def test_ahead_and_behind(self):
        for reader in READERS.values():
            self.check(reader, (
                (" (digest (word a))", 0), ("x(word a)", 0), (")", 0), ("word", 0), ("0", 0), ("\n(word a)", 0),
                ("((word a)", 1), ("()", 1), ("( word a)", 1),
            ))
        for reader, text in ((read_term, "(word a)"), (read_role_term, "(word a)"), (read_recipe, "(letter 0)")):
            self.check(reader, [(text + more, len(text)) for more in (" ", ")", "(", "x", "0", "\n", " " + text, text)])

    def test_spaces(self):
        self.check(read_term, (
            ("(word  a)", 6), ("(word a )", 7), ("(word\ta)", 5), ("(word\na)", 5), ("(word)", 5), ("(word a\n)", 7),
            ("(pair (word a)(word b))", 14), ("(pair (word a)  (word b))", 15), ("(pair (word a) (word b) )", 23),
            ("(pair (word a))", 14), ("(pair(word a) (word b))", 5), ("(digest (word a) (word b))", 16),
            ("(mark 0n)", 7), ("(mark  0 n)", 6), ("(mark 0  n)", 8), ("(box (word a)ann)", 13), ("(box (word a))", 13),
        ))

    def test_kinds(self):
        self.check(read_term, (
            ("(x", 1), ("(hi", 2), ("(bot)", 4), ("(bob", 3), ("(box)", 4), ("(boxx", 4), ("(hosts ann)", 5), ("(host", 5),
            ("(Host ann)", 1), ("(hosT ann)", 4), ("(letter 0)", 2), ("(free (host ann))", 1), ("(left (word a))", 2),
            ("(unlock", 1), ("(right", 2), ("(stamp (own ann) (own ann) ann)", 17), ("(var x)", 5), ("(mark n)", 6),
            ("(wor a)", 4), ("(p (word a) (word b))", 2),
        ))
        self.check(read_role_term, (
            ("(road 0)", 1), ("(r", 1), ("(letter 0)", 2), ("(free", 1), ("(unlock", 1), ("(boxx", 4), ("(left", 2),
        ))
        self.check(read_recipe, (
            ("(host ann)", 1), ("(word", 1), ("(mark", 1), ("(var", 1), ("(both", 3), ("(own", 1), ("(road", 2),
            ("(un", 3), ("(un)", 3), ("(unlok", 5), ("(unbax", 4), ("(unstomp", 5), ("(lefter", 5), ("(let)", 4),
        ))

    def test_names(self):
        for reader, head in ((read_term, "(word "), (read_term, "(host "), (read_term, "(own "), (read_term, "(mark 0 "),
                             (read_term, "(var 9 "), (read_term, "(box (word a) "), (read_term, "(stamp (word a) "),
                             (read_term, "(both a "), (read_role_term, "(word "), (read_role_term, "(mark "),
                             (read_role_term, "(var "), (read_recipe, "(box (letter 0) "),
                             (read_recipe, "(unstamp (letter 0) "), (read_recipe, "(stamp (letter 0) (letter 1) "),
                             (read_recipe, "(unbox (letter 0) (letter 1) ")):
            many = len(head)
            self.check(reader, (
                (head + "a)", None), (head + "zzzzzzzz)", None), (head + "abcdefgh)", None), (head + ")", many),
                (head + "abcdefghi)", many + 8), (head + "abcdefghijkl)", many + 8), (head + "A)", many),
                (head + "aB)", many + 1), (head + "a1)", many + 1), (head + "1)", many), (head + "ab_c)", many + 2),
                (head + "`)", many), (head + "{)", many), (head + "a{", many + 1), (head + " a)", many),
                (head + "(word a))", many), (head + "abcdefgh", many + 8), (head + "abcdefgh ", many + 8),
            ))

    def test_first_of_both(self):
        self.check(read_term, (("(both  a)", 6), ("(both abcdefghi a)", 14), ("(both a)", 7), ("(both zzzzzzzz zzzzzzzz)", None)))

    def test_second_of_both(self):
        self.check(read_term, (
            ("(both bob ann)", 10), ("(both bob bna)", 11), ("(both bob boa)", 12), ("(both bob bo)", 12), ("(both bob b)", 11),
            ("(both bob bob)", None), ("(both bob boba)", None), ("(both bob boc)", None), ("(both bob c)", None),
            ("(both bob bo", 12), ("(both bob b", 11), ("(both bob bo a)", 12), ("(both bob b1)", 11),
            ("(both ab aa)", 10), ("(both aa a)", 10), ("(both aa a", 10), ("(both zz z)", 10), ("(both z y)", 8),
            ("(both zz zy)", 10), ("(both abcdefgh abcdefgg)", 22), ("(both abcdefgh abcdefg)", 22),
            ("(both abcdefgh abcdefgh)", None), ("(both abcdefgh abcdefghi)", 23), ("(both zzzzzzzz zzzzzzz)", 22),
            ("(both zzzzzzzz zzzzzzzy)", 22), ("(both zzzzzzzz y)", 15), ("(both bob annabcdefgh)", 10),
            ("(both b abcdefghijk)", 8), ("(both b a", 8), ("(both b A)", 8),
            ("(digest (both bob ann))", 18), ("(pair (both a b) (both b a))", 25),
        ))
        self.check(read_recipe, (("(free (both bob ann))", 16), ("(free (both bob bo))", 18), ("(free (both bob bob))", None)))

    def test_sessions(self):
        for kind in ("mark", "var"):
            begin = len(kind) + 2
            for session in "0123456789":
                self.check(read_term, ((f"({kind} {session} n)", None),))
                self.check(read_term, ((f"({kind} {session}0 n)", begin + 1),))
            self.check(read_term, (
                (f"({kind} 00 n)", begin + 1), (f"({kind} 01 n)", begin + 1), (f"({kind} -1 n)", begin),
                (f"({kind} +1 n)", begin), (f"({kind}  n)", begin), (f"({kind} x n)", begin), (f"({kind} 5)", begin + 1),
                (f"({kind} (word a) n)", begin), (f"({kind} / n)", begin), (f"({kind} : n)", begin),
            ))

    def numbers(self, reader, head, tail):
        many = len(head)
        for number in (0, 1, 9, 10, 100, 90909, 100000, 123456, 999999):
            self.check(reader, ((f"{head}{number}{tail}", None),))
        self.check(reader, (
            (head + "00" + tail, many + 1), (head + "01" + tail, many + 1), (head + "007" + tail, many + 1),
            (head + "000000" + tail, many + 1), (head + "1000000" + tail, many + 6), (head + "9999999" + tail, many + 6),
            (head + "12345678901" + tail, many + 6), (head + "-1" + tail, many), (head + "+1" + tail, many),
            (head + tail, many), (head + "x" + tail, many), (head + "1x" + tail, many + 1), (head + " 1" + tail, many),
            (head + "1 " + tail, many + 1), (head + "1_0" + tail, many + 1), (head + "/" + tail, many),
            (head + ":" + tail, many), (head + "1/" + tail, many + 1), (head + "1:" + tail, many + 1),
            (head + "1.0" + tail, many + 1), (head + "123456", many + 6), (head + "0", many + 1),
        ))

    def test_numbers(self):
        self.numbers(read_term, "(road ", ")")
        self.numbers(read_term, "(digest (road ", "))")
        self.numbers(read_recipe, "(letter ", ")")
        self.numbers(read_recipe, "(left (letter ", "))")
        self.numbers(read_recipe, "(free (road ", "))")

    def test_figures_become_numbers(self):
        self.assertEqual(read_term("(road 120)"), ("road", 120))
        self.assertEqual(read_term("(mark 7 n)"), ("mark", 7, "n"))
        self.assertEqual(read_recipe("(letter 120)"), ("letter", 120))

    def test_hosts_of_role_terms(self):
        for head in ("(host ", "(own ", "(both A ", "(both a ", "(box (word a) ", "(stamp (word a) "):
            many = len(head)
            self.check(read_role_term, (
                (head + "A)", None), (head + "a)", None), (head + "Z)", None), (head + "ABCDEFGH)", None),
                (head + "abcdefgh)", None), (head + "ABCDEFGHI)", many + 8), (head + "abcdefghi)", many + 8),
                (head + "Ann)", many + 1), (head + "aNN)", many + 1), (head + "ABc)", many + 2), (head + "abC)", many + 2),
                (head + ")", many), (head + "1)", many), (head + "A1)", many + 1), (head + "@)", many), (head + "[)", many),
                (head + "A[)", many + 1), (head + "A@)", many + 1), (head + "a{)", many + 1), (head + "ABC", many + 3),
                (head + "ABCDEFGHi)", many + 8), (head + "ABCDEFGH)", None), (head + "A-", many + 1),
            ))

    def test_order_is_free_in_role_terms(self):
        for first in ("a", "b", "ab", "A", "B", "AB", "zzzzzzzz", "ZZZZZZZZ"):
            for second in ("a", "b", "ab", "A", "B", "AB", "zzzzzzzz", "ZZZZZZZZ"):
                self.assertEqual(read_role_term(f"(both {first} {second})"), ("both", first, second))

    def test_no_capitals_elsewhere(self):
        self.check(read_role_term, (
            ("(word A)", 6), ("(mark N)", 6), ("(var X)", 5), ("(word aB)", 7), ("(mark nN)", 7), ("(var xX)", 6),
        ))
        self.check(read_term, (("(host A)", 6), ("(own A)", 5), ("(both A B)", 6), ("(both a B)", 8), ("(box (word a) A)", 14)))
        self.check(read_recipe, (("(box (letter 0) A)", 16), ("(free (host A))", 12), ("(free (own A))", 11)))

    def test_no_sessions_in_role_terms(self):
        self.check(read_role_term, (
            ("(mark 0 n)", 6), ("(var 0 x)", 5), ("(mark n 0)", 7), ("(mark n)", None), ("(var x)", None), ("(mark n m)", 7),
        ))

    def test_atoms_of_free(self):
        self.check(read_recipe, (
            ("(free (var 0 x))", 7), ("(free (pair (word a) (word b)))", 7), ("(free (digest (word a)))", 7),
            ("(free (box (word a) a))", 9), ("(free (stamp", 7), ("(free (lock", 7), ("(free (letter 0))", 7),
            ("(free (free (word a)))", 7), ("(free word)", 6), ("(free (mark n))", 12), ("(free (mark 0 n))", None),
            ("(free (mark 10 n))", 13), ("(free (word a) (word b))", 14), ("(letter (word a))", 8), ("(left (word a))", 7),
            ("(pair (letter 0) (host a))", 18), ("(unlock (letter 0))", 18), ("(stamp (letter 0) ann)", 18),
            ("(unbox (letter 0) ann)", 18), ("(unbox (letter 0) (letter 0))", 28), ("(unstamp (letter 0))", 19),
            ("(left (letter 0) (letter 0))", 16), ("(unstamp (letter 0) (letter 0) a)", 20),
        ))


class Levels(unittest.TestCase):
    def check_chain(self, reader, head, leaf, tail):
        """A leaf of one level stands within 29 levels, and within no more."""
        for many in range(31, 36):
            self.assertEqual(wrong_at(reader, head * (many - 1) + leaf + tail * (many - 1)), 30 * len(head), head)
        for many in (1, 2, 28, 29, 30):
            text = head * (many - 1) + leaf + tail * (many - 1)
            self.assertEqual(write_term(reader(text)), text)
        self.assertEqual(wrong_at(reader, head * 30), 30 * len(head))
        self.assertEqual(wrong_at(reader, head * 30 + "x"), 30 * len(head))
        self.assertEqual(wrong_at(reader, head * 30 + "("), 30 * len(head))
        self.assertEqual(wrong_at(reader, head * 300), 30 * len(head))
        self.assertEqual(wrong_at(reader, head * 29 + head[:-1] + "x"), 30 * len(head) - 1)

    def test_terms(self):
        for head, tail in (("(digest ", ")"), ("(box ", " ann)"), ("(stamp ", " ann)"), ("(pair ", " (word b))"), ("(lock ", " (own b))")):
            self.check_chain(read_term, head, "(word a)", tail)
        self.assertEqual(wrong_at(read_term, "(pair (word b) " * 30 + "(word b)" + ")" * 30), 15 * 29 + 6)
        self.assertIsNone(wrong_at(read_term, "(pair (word b) " * 29 + "(word b)" + ")" * 29))
        self.assertEqual(wrong_at(read_term, "(digest " * 28 + "(pair (word a) (digest (word b)))" + ")" * 28), 8 * 28 + 23)

    def test_role_terms(self):
        for head, tail in (("(digest ", ")"), ("(box ", " A)"), ("(stamp ", " A)"), ("(pair ", " (word b))"), ("(lock ", " (own B))")):
            self.check_chain(read_role_term, head, "(mark a)", tail)

    def test_recipes(self):
        for head, tail in (("(left ", ")"), ("(right ", ")"), ("(digest ", ")"), ("(box ", " ann)"), ("(unstamp ", " ann)"),
                           ("(pair ", " (letter 0))"), ("(lock ", " (letter 0))"), ("(unlock ", " (letter 0))"),
                           ("(stamp ", " (letter 0) ann)"), ("(unbox ", " (letter 0) ann)")):
            self.check_chain(read_recipe, head, "(letter 7)", tail)

    def test_atoms_of_recipes_count(self):
        text = "(left " * 28 + "(free (word a))" + ")" * 28
        self.assertEqual(write_term(read_recipe(text)), text)
        self.assertEqual(wrong_at(read_recipe, "(left " * 29 + "(free (word a))" + ")" * 29), 6 * 29 + 6)
        self.assertEqual(wrong_at(read_recipe, "(left " * 29 + "(free word"), 6 * 29 + 6)
        self.assertEqual(wrong_at(read_recipe, "(left " * 29 + "(free "), 6 * 29 + 6)
        self.assertEqual(wrong_at(read_recipe, "(left " * 30 + "(free (word a))" + ")" * 30), 6 * 30)

    def test_kinds_of_level_thirty_are_read(self):
        self.assertEqual(wrong_at(read_term, "(digest " * 29 + "(p"), 8 * 29 + 2)
        self.assertEqual(wrong_at(read_term, "(digest " * 29 + "(pair"), 8 * 29 + 5)
        self.assertEqual(wrong_at(read_term, "(digest " * 29 + "(pairs"), 8 * 29 + 5)
        self.assertEqual(wrong_at(read_term, "(digest " * 29 + "(pair "), 8 * 29 + 6)
        self.assertEqual(wrong_at(read_term, "(digest " * 29 + "(pair ("), 8 * 29 + 6)


TEXTS = {
    "t": (
        "(host ann)", "(word abcdefgh)", "(road 0)", "(road 7)", "(road 999999)", "(road 120)", "(own b)", "(both ann bob)",
        "(both b b)", "(both bob bobby)", "(both abcdefgh abcdefgi)", "(both zz zzz)", "(mark 0 n)", "(mark 9 abc)",
        "(var 1 x)", "(pair (host ann) (var 0 y))", "(lock (mark 0 n) (both ann bob))", "(digest (word hi))",
        "(box (road 10) ann)", "(stamp (digest (own a)) bob)",
        "(stamp (pair (box (lock (road 3) (both b ba)) mal) (digest (var 9 z))) abcdefgh)",
    ),
    "q": (
        "(host ann)", "(host A)", "(host ABCDEFGH)", "(word abcdefgh)", "(own b)", "(own B)", "(both A B)", "(both bob A)",
        "(both B ann)", "(both bob ann)", "(mark n)", "(mark abcdefgh)", "(var x)", "(pair (host A) (var y))",
        "(lock (mark n) (both B A))", "(digest (word hi))", "(box (mark n) B)", "(stamp (digest (own A)) ann)",
        "(stamp (pair (box (lock (mark m) (both B ba)) MAL) (digest (var z))) ABCDEFGH)",
    ),
    "r": (
        "(letter 0)", "(letter 999999)", "(letter 12)", "(free (host ann))", "(free (mark 0 n))", "(free (road 100))",
        "(free (both bob bobby))", "(free (own mal))", "(free (word hi))", "(pair (letter 0) (letter 1))",
        "(lock (letter 0) (free (word a)))", "(digest (letter 0))", "(box (letter 0) ann)",
        "(stamp (letter 0) (free (own b)) b)", "(left (letter 3))", "(right (letter 3))", "(unstamp (letter 0) ann)",
        "(unlock (letter 0) (letter 1))", "(unbox (letter 0) (letter 1) mal)",
        "(unlock (left (unbox (letter 3) (free (own mal)) mal)) (right (unstamp (lock (letter 0) (digest (letter 1))) a)))",
    ),
}
SIGNS = "()abehz`{AZ@[0189/: -_\n"


class Changed(unittest.TestCase):
    """Each text with a sign put in, left out or changed at each place, against the grammar."""

    def check(self, grammar, reading, text, same):
        expected = reading.wrong_at(text, same)
        reader = READERS[grammar]
        if wrong_at(reader, text) != expected:
            self.fail(f"{text!r}: {wrong_at(reader, text)} instead of {expected}")
        if expected is None:
            self.assertEqual(plain_written(reader(text)), text)

    def changes(self, grammar, change):
        for text in TEXTS[grammar]:
            reading = Reading(grammar, text)
            for at in range(len(text) + 1):
                for changed in change(text, at):
                    self.check(grammar, reading, changed, at)

    def test_cut(self):
        for grammar in TEXTS:
            self.changes(grammar, lambda text, at: (text[:at],))

    def test_left_out(self):
        for grammar in TEXTS:
            self.changes(grammar, lambda text, at: (text[:at] + text[at + 1:], text[:at] + text[at + 2:], text[:at] + text[at + 6:]))

    def test_put_in(self):
        for grammar in TEXTS:
            self.changes(grammar, lambda text, at: [text[:at] + sign + text[at:] for sign in SIGNS])

    def test_changed(self):
        for grammar in TEXTS:
            self.changes(grammar, lambda text, at: [text[:at] + sign + text[at + 1:] for sign in SIGNS])

    def test_said_twice(self):
        for grammar in TEXTS:
            self.changes(grammar, lambda text, at: (text[:at] + text, text[:at] + text[:at], text[:at] + text[at // 2:]))

    def test_texts_of_the_other_languages(self):
        for grammar in TEXTS:
            reading = Reading(grammar, "")
            for other in TEXTS:
                for text in TEXTS[other]:
                    self.check(grammar, reading, text, 0)

    def test_all_pairs_of_names_in_both(self):
        names = ("a", "b", "z", "ab", "ba", "zz", "zy", "bob", "bo", "abcdefgh", "abcdefgg", "abcdefg", "zzzzzzzz", "zzzzzzzy")
        for grammar, head, tail in (("t", "(both ", ")"), ("q", "(both ", ")"), ("r", "(free (both ", "))")):
            reading = Reading(grammar, "")
            for first in names:
                for second in names:
                    self.check(grammar, reading, head + first + " " + second + tail, 0)


if __name__ == "__main__":
    unittest.main()
