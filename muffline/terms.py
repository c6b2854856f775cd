"""Terms: their forms, parts and order.

Terms may be nested too deep for recursion, so the functions keep stacks of their own.
"""

from muffline.forms import GREATEST_NUMBERS, PLACES, is_name, is_number


def is_term(value):
    """Tell whether a value of any form is a term."""
    pending = [value]
    while pending:
        node = pending.pop()
        places = _places_of(node)
        if places is None:
            return False
        for at, place in enumerate(places, start=1):
            if place == "term":
                pending.append(node[at])
            elif not _fits(node[at], place, node[at - 1]):
                return False
    return True


def _places_of(value):
    """Return the places of the one form that the value can have, or None."""
    if not isinstance(value, tuple) or len(value) == 0 or not isinstance(value[0], str):
        return None
    places = PLACES.get(("term", value[0]))
    if places is None or len(value) != len(places) + 1:
        return None
    return places


def _fits(item, place, before):
    """Tell whether an item that is no term fits its place behind the item before it."""
    if place in GREATEST_NUMBERS:
        return is_number(item, GREATEST_NUMBERS[place])
    if place == "later":
        return is_name(item) and before <= item
    return is_name(item)


def is_atom(term):
    """Tell whether a term is an atom; a variable is none."""
    return ("atom", term[0]) in PLACES


def is_ground(term):
    """Tell whether a term has no variables."""
    return all([node[0] != "var" for node in occurrences(term)])


def size(term):
    """Return the number of terms in a term, itself included."""
    return len(occurrences(term))


def occurrences(term):
    """List the term and the terms inside it from left to right, each as often as it occurs."""
    found = []
    pending = [term]
    while pending:
        node = pending.pop()
        found.append(node)
        for item in reversed(node):
            if isinstance(item, tuple):
                pending.append(item)
    return found


def parts(term):
    """Return the distinct parts of a term, each at its first place."""
    return parts_of_row((term,))


def parts_of_row(row):
    """Return the distinct parts of the terms of a row, each at its first place."""
    found = {}
    for term in row:
        nodes = occurrences(term)
        for key, node in zip(_keys_of(nodes), nodes):
            found.setdefault(key, node)
    return tuple(found.values())


def _keys_of(nodes):
    """List the written forms of all that occurs in a term, in the order of occurrences."""
    keys = []
    inner = []
    for node in reversed(nodes):
        key = _written(node, inner)
        inner.append(key)
        keys.append(key)
    keys.reverse()
    return keys


def _written(node, inner):
    """Write a term, taking the written forms of the terms inside from the end of a list."""
    words = []
    for item in node:
        if isinstance(item, tuple):
            words.append(inner.pop())
        else:
            words.append(str(item))
    return "(" + " ".join(words) + ")"


def variables(term):
    """Return the variables of a term, each once, in ascending order."""
    found = {node: True for node in occurrences(term) if node[0] == "var"}
    return in_order(tuple(found))


def key_of(term):
    """Return the written form of a term."""
    # From the right to the left, what stands inside a term is written ahead of the term.
    inner = []
    for node in reversed(occurrences(term)):
        inner.append(_written(node, inner))
    return inner[0]


def _rank(term):
    return (size(term), key_of(term))


def is_less(first, second):
    """Tell whether the first term is less: by size, then by the written form."""
    return _rank(first) < _rank(second)


def in_order(row):
    """Return the terms of a row in ascending order, each as often as it occurs."""
    return tuple(sorted(row, key=_rank))
