"""The document's definitions, done in the plainest way, for small things only, without the program.

Everything is recursive and tries all there is, so that it can be read next to the points.
"""

import itertools

PLACES = {"pair": 2, "lock": 2, "digest": 1, "box": 1, "stamp": 1}


def written(value):
    if isinstance(value, tuple):
        return "(" + " ".join([written(item) for item in value]) + ")"
    return str(value)


def inner(term):
    return [item for item in term if isinstance(item, tuple)]


def size(term):
    return 1 + sum(size(item) for item in inner(term))


def levels(value):
    return 1 + max([levels(item) for item in inner(value)], default=0)


def rank(term):
    return (size(term), written(term))


def all_parts(row):
    """The parts of a row, each once, at its first place."""
    found = []

    def visit(term):
        if term not in found:
            found.append(term)
        for item in inner(term):
            visit(item)

    for term in row:
        visit(term)
    return found


def variables(*terms):
    return [part for part in all_parts(terms) if part[0] == "var"]


# Points [7] to [11].

def is_free(good, atom):
    return {
        "host": lambda: True, "word": lambda: True, "road": lambda: True,
        "own": lambda: atom[1] not in good,
        "both": lambda: not (atom[1] in good and atom[2] in good),
    }.get(atom[0], lambda: False)()


def can_build(good, terms, term):
    if term in terms or is_free(good, term):
        return True
    if term[0] == "stamp":
        return can_build(good, terms, term[1]) and can_build(good, terms, ("own", term[2]))
    return term[0] in PLACES and all(can_build(good, terms, item) for item in inner(term))


def openings(good, terms, term):
    """What can be opened of a term of the set, with what is built from the set."""
    if term[0] in ("pair",):
        return [term[1], term[2]]
    if term[0] == "stamp":
        return [term[1]]
    if term[0] == "lock" and can_build(good, terms, term[2]):
        return [term[1]]
    if term[0] == "box" and can_build(good, terms, ("own", term[2])):
        return [term[1]]
    return []


def opened(good, row):
    found = list(row)
    while True:
        more = [item for term in found for item in openings(good, found, term) if item not in found]
        if not more:
            return tuple(sorted([term for at, term in enumerate(found) if term not in found[:at]], key=rank))
        found += more


def reachable(good, row, term):
    return can_build(good, opened(good, row), term)


def is_wall(good, row, term, wall):
    closed = all(item in wall for member in wall for item in openings(good, wall, member))
    return all(letter in wall for letter in row) and closed and not can_build(good, wall, term)


def cook(good, row, recipe):
    """The value of a recipe that has the right form."""
    kind = recipe[0]
    if kind == "letter":
        return row[recipe[1]] if recipe[1] < len(row) else None
    if kind == "free":
        return recipe[1] if is_free(good, recipe[1]) else None
    values = [cook(good, row, item) for item in inner(recipe)]
    if None in values:
        return None
    return combine(recipe, values)


def combine(recipe, values):
    """The value of a recipe whose inner values are given; of the recipe only kind and names count."""
    kind, name, first = recipe[0], recipe[-1], values[0]
    if kind in ("pair", "lock", "digest"):
        return (kind, *values)
    if kind == "box":
        return ("box", first, name)
    if kind == "stamp":
        return ("stamp", first, name) if values[1] == ("own", name) else None
    if kind in ("left", "right"):
        return first[1 if kind == "left" else 2] if first[0] == "pair" else None
    if kind == "unstamp":
        return first[1] if first[0] == "stamp" and first[2] == name else None
    if kind == "unlock":
        return first[1] if first[0] == "lock" and first[2] == values[1] else None
    return first[1] if first[0] == "box" and first[2] == name and values[1] == ("own", name) else None


def recipes_by_size(good, row, atoms, names, most):
    """All recipes that have a value, over some free atoms and names, as a list of lists of (recipe, value)."""
    ones = [("letter", at) for at in range(len(row))] + [("free", atom) for atom in atoms]
    found = [[], [(recipe, cook(good, row, recipe)) for recipe in ones]]
    found[1] = [(recipe, value) for recipe, value in found[1] if value is not None]
    for count in range(2, most + 1):
        layer = []
        for recipe, value in found[count - 1]:
            heads = [("digest", recipe), ("left", recipe), ("right", recipe)]
            heads += [(kind, recipe, name) for kind in ("box", "unstamp") for name in names]
            layer += [(head, combine(head, [value])) for head in heads]
        for first_size in range(1, count - 1):
            for (first, one), (second, other) in itertools.product(found[first_size], found[count - 1 - first_size]):
                heads = [(kind, first, second) for kind in ("pair", "lock", "unlock")]
                heads += [(kind, first, second, name) for kind in ("stamp", "unbox") for name in names]
                layer += [(head, combine(head, [one, other])) for head in heads]
        found.append([(recipe, value) for recipe, value in layer if value is not None])
    return found


def least_recipes(good, row, atoms, names, most):
    """A dict of the least recipe for each value that has one of a size up to most."""
    found = {}
    for layer in recipes_by_size(good, row, atoms, names, most):
        for recipe, value in layer:
            if value not in found or rank_of_recipe(recipe) < rank_of_recipe(found[value]):
                found[value] = recipe
    return found


def least_by_trying(good, row, term):
    """A dict of the least recipes for the parts of a row, of a term, and private halves, found by trying until none gets less."""
    universe = all_parts([*row, term])
    universe += [("own", part[2]) for part in universe if part[0] in ("box", "stamp")]
    found = {}

    def offer(recipe, values):
        value = combine(recipe, values) if values else cook(good, row, recipe)
        if value in universe and (value not in found or rank_of_recipe(recipe) < rank_of_recipe(found[value])):
            found[value] = recipe
            return True
        return False

    again = True
    while again:
        again = any([offer(("letter", at), []) for at in range(len(row))])
        for target in universe:
            again = offer(("free", target), []) or again
            below = [found.get(item) for item in inner(target)]
            half = found.get(("own", target[-1]))
            if target[0] in PLACES and None not in below and (target[0] != "stamp" or half is not None):
                names = [item for item in target[1:] if isinstance(item, str)]
                recipe = (target[0], *below, *([half] if target[0] == "stamp" else []), *names)
                again = offer(recipe, inner(target) + ([("own", target[2])] if target[0] == "stamp" else [])) or again
        for target, recipe in list(found.items()):
            key = found.get(target[2]) if target[0] == "lock" else found.get(("own", target[-1]))
            if target[0] == "pair":
                again = offer(("left", recipe), [target]) or offer(("right", recipe), [target]) or again
            elif target[0] == "stamp":
                again = offer(("unstamp", recipe, target[2]), [target]) or again
            elif target[0] == "lock" and key is not None:
                again = offer(("unlock", recipe, key), [target, target[2]]) or again
            elif target[0] == "box" and key is not None:
                again = offer(("unbox", recipe, key, target[2]), [target, ("own", target[2])]) or again
    return found


def recipe_size(recipe):
    if recipe[0] in ("letter", "free"):
        return 1
    return 1 + sum(recipe_size(item) for item in inner(recipe))


def rank_of_recipe(recipe):
    return (recipe_size(recipe), written(recipe))


# Points [12] to [14].

def apply(bindings, term):
    for variable, value in bindings:
        if variable == term:
            return value
    return tuple([apply(bindings, item) if isinstance(item, tuple) else item for item in term])


def in_order(pairs):
    return tuple(sorted(pairs, key=lambda pair: rank(pair[0])))


def replace(table, term):
    """Replace variables again and again."""
    if term in table:
        return replace(table, table[term])
    return tuple([replace(table, item) if isinstance(item, tuple) else item for item in term])


def solve(pairs):
    """A dict that makes all pairs equal when it is applied again and again, or None."""
    table = {}
    pairs = list(pairs)
    while pairs:
        first, second = pairs.pop()
        first, second = replace(table, first), replace(table, second)
        if first == second:
            continue
        if first[0] != "var" and second[0] != "var":
            outer = [[item for item in term if not isinstance(item, tuple)] for term in (first, second)]
            if outer[0] != outer[1]:
                return None
            pairs += list(zip(inner(first), inner(second)))
            continue
        if first[0] != "var":
            first, second = second, first
        if first in all_parts([second]):
            return None
        table[first] = second
    return table


def unify_rows(first, second):
    table = solve(zip(first, second))
    if table is None:
        return None
    names = {}
    for variable in variables(*first, *second):
        end = replace(table, variable)
        if end[0] == "var":
            names.setdefault(end, []).append(variable)
    renaming = [(end, min(group, key=rank)) for end, group in names.items()]
    pairs = [(variable, apply(renaming, replace(table, variable))) for variable in variables(*first, *second)]
    return in_order([(variable, term) for variable, term in pairs if variable != term])


def match(pattern, term, table):
    """Tell whether a pattern can be made a ground term; add what its variables become to the dict."""
    if pattern[0] == "var":
        return table.setdefault(pattern, term) == term
    if len(pattern) != len(term):
        return False
    for one, other in zip(pattern, term):
        if isinstance(one, tuple) and isinstance(other, tuple):
            if not match(one, other, table):
                return False
        elif one != other:
            return False
    return True
