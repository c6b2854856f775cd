"""Rows that look alike, in the plainest way: all small recipes are tried on both rows."""

import itertools

from tests import plain


def tells(good, first, second, test):
    ones, others = [[plain.cook(good, row, recipe) for recipe in test[1:]] for row in (first, second)]
    if test[0] == "works":
        return (ones[0] is None) != (others[0] is None)
    if None in ones or None in others:
        return False
    return (ones[0] == ones[1]) != (others[0] == others[1])


class Trying:
    """Recipes with a value on both rows, the first one for each pair of values."""

    def __init__(self, good, first, second, bound):
        self.rows = (first, second)
        self.bound = bound
        self.found = {}
        self.sides = ({}, {})
        self.test = None
        halves = [("own", part[2]) for part in plain.all_parts(first + second) if part[0] in ("box", "stamp")]
        self.names = sorted({part[-1] for part in plain.all_parts(first + second) if part[0] in ("box", "stamp", "own")}) or ["ann"]
        for at in range(len(first)):
            self.offer(("letter", at), first[at], second[at])
        for part in plain.all_parts(first + second + tuple(halves)):
            if plain.is_free(good, part):
                self.offer(("free", part), part, part)

    def offer(self, recipe, one, other):
        if self.test is not None or (one is None and other is None):
            return
        if one is None or other is None:
            self.test = ("works", recipe)
        elif max(plain.size(one), plain.size(other)) <= self.bound and (one, other) not in self.found:
            for side, value in enumerate((one, other)):
                rival = self.sides[side].setdefault(value, recipe)
                if rival != recipe:
                    self.test = ("equal", rival, recipe)
            self.found[one, other] = recipe

    def widen(self, most):
        """Try all recipes with one more step, unless there are too many."""
        pairs = list(self.found.items())
        for (one, other), recipe in pairs:
            heads = [("digest", recipe), ("left", recipe), ("right", recipe)]
            heads += [(kind, recipe, name) for kind in ("box", "unstamp") for name in self.names]
            for head in heads:
                self.offer(head, plain.combine(head, [one]), plain.combine(head, [other]))
        for ((one, other), first), ((two, another), second) in itertools.product(pairs, pairs):
            heads = [(kind, first, second) for kind in ("pair", "lock", "unlock")]
            if "own" in (two[0], another[0]):
                heads += [(kind, first, second, name) for kind in ("stamp", "unbox") for name in self.names]
            for head in heads:
                self.offer(head, plain.combine(head, [one, two]), plain.combine(head, [other, another]))
            if self.test is not None or len(self.found) > most:
                return


def find_test(good, first, second, rounds=3, bound=9, most=200):
    """A test that tells two rows apart and has few steps, or None."""
    trying = Trying(good, first, second, bound)
    for _ in range(rounds):
        if trying.test is None and len(trying.found) <= most:
            trying.widen(most)
    return trying.test
