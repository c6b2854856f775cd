"""Good and spoilt values of all forms, put together without the program."""

ANN = ("host", "ann")
BOB = ("host", "bob")
HI = ("word", "hi")
KEY = ("both", "ann", "bob")
MARK = ("mark", 0, "n")
VAR = ("var", 1, "x")

GOOD_NAMES = ("a", "z", "m", "ab", "az", "za", "abcdefg", "abcdefgh", "zzzzzzzz", "letter", "pair")
BAD_NAMES = (
    "", "abcdefghi", "zzzzzzzzz", "A", "Z", "Ann", "aNn", "anN", "abcdefgH", "a1", "1", "1a", "a-", "a_b",
    " ", " a", "a ", "a b", "a\n", "\na", "\t", "`", "{", "a`", "a{", "@", "[", "(a)", "a)", "-", "0",
    0, 1, -1, 97, None, (), ("a",), (("a",),), ("host", "a"), ("a", "b"), (None,), (0,),
)
GOOD_SESSIONS = (0, 1, 5, 8, 9)
BAD_SESSIONS = (-1, 10, 11, 99, -9, 10 ** 30, -10 ** 30, "0", "9", "", "a", None, (), (0,), (None,), ("mark", 0, "n"))
GOOD_NUMBERS = (0, 1, 9, 10, 99, 100000, 999998, 999999)
BAD_NUMBERS = (-1, 1000000, 1000001, 10 ** 30, -10 ** 30, "0", "999999", "", "a", None, (), (0,), (None,), ("road", 0))
GOOD_PAIRS_OF_NAMES = (
    ("a", "a"), ("a", "b"), ("ann", "ann"), ("ann", "bob"), ("a", "aa"), ("an", "ann"), ("ann", "b"),
    ("z", "z"), ("y", "z"), ("abcdefgh", "abcdefgh"), ("abcdefgh", "abcdefgi"), ("a", "zzzzzzzz"), ("zzz", "zzzz"),
)

# What stands in each place of a form: a name (n), a session (s), a number (i), or a term (t).
PLACES = {
    "host": "n", "word": "n", "road": "i", "own": "n", "both": "nn", "mark": "sn", "var": "sn",
    "pair": "tt", "lock": "tt", "digest": "t", "box": "tn", "stamp": "tn",
}
PLAIN_FORMS = (ANN, HI, ("road", 7), ("own", "ann"), KEY, MARK, VAR)
BAD_TERMS = (
    None, 0, -1, "", "a", "host", (), ((),), (None,), (0,), ("host",), ("a",), (ANN,), ((ANN,),), (ANN, BOB),
    ("a", "b"), ("host", "ann", "bob"), ("mark", "n"), ("var", "x"), ("host", "A"), ("own", "B"), ("both", "bob", "ann"),
    ("letter", 0), ("free", ANN), ("left", ANN), ("unlock", ANN, KEY), ("stamp", ANN, ("own", "ann"), "ann"),
    ("mark", 10, "n"), ("road", 1000000), ("road", "0"), ("host", ("host", "ann")), ("box", ANN), ("pair", ANN),
)


def good_terms():
    """Each form with many good parts."""
    found = []
    for name in GOOD_NAMES:
        found += [("host", name), ("word", name), ("own", name), ("mark", 3, name), ("var", 3, name)]
        found += [("box", HI, name), ("stamp", HI, name)]
    for number in GOOD_NUMBERS:
        found.append(("road", number))
    for session in GOOD_SESSIONS:
        found += [("mark", session, "n"), ("var", session, "x")]
    for first, second in GOOD_PAIRS_OF_NAMES:
        found.append(("both", first, second))
    for inner in PLAIN_FORMS:
        found += [("digest", inner), ("box", inner, "ann"), ("stamp", inner, "bob")]
        for other in PLAIN_FORMS:
            found += [("pair", inner, other), ("lock", inner, other)]
    found += [wrap(wrap(inner)) for inner in PLAIN_FORMS[:2] for wrap in WRAPS]
    return found


def plain_of(kind):
    """One good term of a kind."""
    items = {"n": "m", "s": 4, "i": 44, "t": MARK}
    return (kind,) + tuple(items[place] for place in PLACES[kind])


def with_item(form, at, item):
    return form[:at] + (item,) + form[at + 1:]


def spoilt_terms():
    """Each place of each form spoilt, and the number of items, and the kind."""
    bad = {"n": BAD_NAMES, "s": BAD_SESSIONS, "i": BAD_NUMBERS, "t": BAD_TERMS}
    found = []
    for kind, places in PLACES.items():
        good = plain_of(kind)
        for at, place in enumerate(places, start=1):
            found += [with_item(good, at, item) for item in bad[place]]
            found += [with_item(good, at, (good[at],)), good[:at] + good[at + 1:]]
            found += [good[:at] + (item,) + good[at:] for item in ("m", 4, MARK, None, (), good[at])]
        found += [good + (item,) for item in ("m", 4, MARK, None, (), kind)]
        found += [(kind,), good[1:], (good,), (good, good), good[::-1], (kind, good, good, good)]
        for wrong in ("", kind + "s", kind[:-1], kind.upper(), kind.capitalize(), " " + kind, kind + " ", None, 0, -1,
                      (), (kind,), good, "letter", "free", "left", "right", "unlock", "unbox", "unstamp", "term", "m"):
            found.append(with_item(good, 0, wrong))
    for first, second in GOOD_PAIRS_OF_NAMES:
        if first != second:
            found.append(("both", second, first))
    return found + list(BAD_TERMS)


# All ways in which a term stands within a composed one.
WRAPS = (
    lambda inner: ("pair", inner, HI),
    lambda inner: ("pair", ANN, inner),
    lambda inner: ("lock", inner, KEY),
    lambda inner: ("lock", MARK, inner),
    lambda inner: ("digest", inner),
    lambda inner: ("box", inner, "bob"),
    lambda inner: ("stamp", inner, "ann"),
)


def deep(inner, levels, wraps=WRAPS):
    """Wrap a value in levels composed terms."""
    for level in range(levels):
        inner = wraps[level % len(wraps)](inner)
    return inner


def doubled(inner, times):
    """Pair a term with itself again and again."""
    for _ in range(times):
        inner = ("pair", inner, inner)
    return inner
