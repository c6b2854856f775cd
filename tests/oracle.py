"""Where a text goes wrong, found out without the program.

The grammars are run as they stand, one character after the other, over all ways in
which the text so far can be the beginning of a written form. A way is a chain of what
is still due: (item, rest), or None at the end. Items are characters, ("of", characters),
("perhaps", items), ("form", grammar, level) and ("text", first, ..) for one of several texts.
"""

import re

SMALL = "abcdefghijklmnopqrstuvwxyz"
CAPITAL = "ABCDEFGHIJKLMNOPQRSTUVWXYZ"
LEVELS = 30


def signs(letters):
    items = [("of", letters)]
    for _ in range(7):
        items = [("of", letters), ("perhaps", items)]
    return items


def digits(most):
    """The ways to write a number of at most so many figures."""
    items = []
    for _ in range(most - 1):
        items = [("perhaps", [("of", "0123456789")] + items)]
    return [["0"], [("of", "123456789")] + items]


ITEMS = {
    "n": [signs(SMALL)],
    "h": [signs(SMALL), signs(CAPITAL)],
    "s": digits(1),
    "i": digits(6),
}
ATOMS = "host n/word n/road i/own n/both n n/mark s n"
GRAMMARS = {
    "a": ATOMS,
    "t": ATOMS + "/var s n/pair t t/lock t t/digest t/box t n/stamp t n",
    "q": "host h/word n/own h/both h h/mark n/var n/pair q q/lock q q/digest q/box q h/stamp q h",
    "r": "letter i/free a/pair r r/lock r r/digest r/box r n/stamp r r n/left r/right r/unstamp r n/unlock r r/unbox r r n",
}


def chain(items, rest):
    for item in reversed(items):
        rest = (item, rest)
    return rest


def form_ways(grammar, level, rest):
    """All ways to write a form, behind its parenthesis."""
    ways = []
    for form in GRAMMARS[grammar].split("/"):
        kind, *places = form.split(" ")
        heads = [list(kind)]
        for place in places:
            if place in ITEMS:
                heads = [head + [" "] + items for head in heads for items in ITEMS[place]]
            else:
                heads = [head + [" ", ("form", place, level + 1)] for head in heads]
        ways += [chain(head + [")"], rest) for head in heads]
    return ways


def after(ways, sign):
    """The ways that are left when one more character was read."""
    found = []
    pending = list(ways)
    while pending:
        way = pending.pop()
        if way is None:
            continue
        item, rest = way
        if isinstance(item, str):
            if item == sign:
                found.append(rest)
        elif item[0] == "of":
            if sign in item[1]:
                found.append(rest)
        elif item[0] == "perhaps":
            pending += [rest, chain(item[1], rest)]
        elif sign == "(" and item[2] <= LEVELS:
            found += form_ways(item[1], item[2], rest)
    return found


def may_end(ways):
    return None in ways


def names_in_order(text):
    """Whether every both has, or may still get, a second name as great as its first."""
    for first, second in re.findall(r"\(both ([a-z]+) ([a-z]+)\)", text):
        if second < first:
            return False
    last = re.search(r"\(both ([a-z]+) ([a-z]+)\Z", text)
    return last is None or last[2].ljust(8, "z") >= last[1]


class Reading:
    """The ways along a text that is right, kept for each of its beginnings."""

    def __init__(self, grammar, text):
        self.ordered = grammar != "q"
        self.text = text
        self.ways = [[(("form", grammar, 1), None)]]
        for at in range(len(text)):
            self.ways.append(self.step(self.ways[-1], text[:at + 1]))
            assert self.ways[-1], (text, at)

    def step(self, ways, beginning):
        if self.ordered and not names_in_order(beginning):
            return []
        return after(ways, beginning[-1])

    def wrong_at(self, text, same):
        """The index at which another text goes wrong, whose first characters are the same; None if it is right."""
        ways = self.ways[same]
        for at in range(same, len(text)):
            ways = self.step(ways, text[:at + 1])
            if not ways:
                return at
        return None if may_end(ways) else len(text)
