"""Texts of worlds and their claims: writing and reading them, line by line.

Each line is read by its words. What a word must be is told by the functions that return
None for a word that is something else.
"""

from muffline.claims import check_claim
from muffline.errors import BadLine, BadText
from muffline.forms import is_capital, is_name
from muffline.notation import read_role_terms, write_term
from muffline.worlds import World

MOST_FIGURES = 6

# The kinds of lines that may stand behind each kind of line; the first one stands at the start.
FOLLOWERS = {
    "start": ("good",),
    "good": ("role", "session", "hidden", "agrees", "each"),
    "role": ("send", "take", "role", "session", "hidden", "agrees", "each"),
    "send": ("send", "take", "role", "session", "hidden", "agrees", "each"),
    "take": ("send", "take", "role", "session", "hidden", "agrees", "each"),
    "session": ("session", "hidden", "agrees", "each"),
    "hidden": ("hidden", "agrees", "each"),
    "agrees": ("hidden", "agrees", "each"),
    "each": ("hidden", "agrees", "each"),
}


def write_world(world, claims):
    """Return the written form of a world and its claims."""
    lines = [" ".join(["good", *world.good])]
    for name, parameters, steps in world.roles:
        lines.append(" ".join(["role", name, *parameters]))
        lines.extend([word + " " + write_term(term) for word, term in steps])
    lines.extend([" ".join(["session", name, *hosts]) for name, hosts in world.sessions])
    lines.extend([_written_claim(claim) for claim in claims])
    return "\n".join(lines)


def _written_claim(claim):
    if claim[0] == "hidden":
        return " ".join(["hidden", str(claim[1]), write_term(claim[2])])
    kind, who, terms, role, steps, other_terms = claim
    words = [kind, str(who), role, str(steps)]
    for term, other in zip(terms, other_terms):
        words.extend([write_term(term), write_term(other)])
    return " ".join(words)


def read_world(text):
    """Return the world and the claims whose written form is a text."""
    good = ()
    roles = []
    sessions = []
    claims = []
    before = "start"
    for number, line in enumerate(text.split("\n"), start=1):
        kind = line.split(" ")[0]
        item = read_line(line) if kind in FOLLOWERS[before] else None
        if item is None:
            raise BadLine(number)
        if kind == "good":
            good = item
        elif kind == "role":
            roles.append(item)
        elif kind in ("send", "take"):
            name, parameters, steps = roles.pop()
            roles.append((name, parameters, (*steps, item)))
        elif kind == "session":
            sessions.append(item)
        else:
            claims.append(item)
        before = kind
    return _checked(World(tuple(roles), tuple(sessions), good), tuple(claims))


def _checked(world, claims):
    for claim in claims:
        check_claim(world, claim)
    return (world, claims)


def read_line(line):
    """Return what a line of a world stands for: good hosts, a role without steps, a step, a session or a claim.

    Return None if the line has another form.
    """
    kind, *words = line.split(" ")
    if kind == "good":
        return tuple(words) if all([is_name(word) for word in words]) else None
    if kind == "role":
        return _role_of(words)
    if kind in ("send", "take"):
        term = term_of(words)
        return None if term is None else (kind, term)
    if kind == "session":
        return _session_of(words)
    if kind == "hidden":
        return _hidden_of(words)
    return _pairs_of(kind, words) if kind in ("agrees", "each") else None


def _role_of(words):
    if len(words) == 0 or not is_name(words[0]) or not all([is_capital(word) for word in words[1:]]):
        return None
    return (words[0], tuple(words[1:]), ())


def _session_of(words):
    if len(words) == 0 or not all([is_name(word) for word in words]):
        return None
    return (words[0], tuple(words[1:]))


def number_of(word):
    """Return the number that a word is, or None."""
    if not 1 <= len(word) <= MOST_FIGURES or not all(["0" <= figure <= "9" for figure in word]):
        return None
    return None if len(word) > 1 and word[0] == "0" else int(word)


def term_of(words):
    """Return the one role term that some words make, or None."""
    terms = _terms_of(words)
    return terms[0] if terms is not None and len(terms) == 1 else None


def _terms_of(words):
    """Return the role terms that some words make, or None."""
    # An empty word is no role term; without this, one such word alone would be no text at all.
    if "" in words:
        return None
    try:
        return read_role_terms(" ".join(words))
    except BadText:
        return None


def _hidden_of(words):
    session = number_of(words[0]) if len(words) > 0 else None
    term = term_of(words[1:])
    return None if session is None or term is None else ("hidden", session, term)


def _pairs_of(kind, words):
    """Return the claim agrees or each that some words make, or None."""
    if len(words) < 3 or not is_name(words[1]):
        return None
    who = number_of(words[0])
    if kind == "each":
        who = words[0] if is_name(words[0]) else None
    steps = number_of(words[2])
    terms = _terms_of(words[3:])
    if who is None or steps is None or terms is None or len(terms) != len(terms) // 2 * 2:
        return None
    return (kind, who, terms[::2], words[1], steps, terms[1::2])
