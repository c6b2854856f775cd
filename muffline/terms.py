"""Terms: their forms, parts and order.

Terms may be nested too deep for recursion, so the functions keep stacks of their own.
Where the document asks nothing else, they take role terms and recipes, too.
"""

from muffline.forms import PLACES, forms_within

LARGEST_SIZE = 2000

MOST_LEVELS = 200


def is_term(value):
    """Tell whether a value of any form is a term."""
    return forms_within(value, "term", ()) is not None


def is_atom(term):
    """Tell whether a term is an atom; a variable is none."""
    return ("atom", term[0]) in PLACES


def is_ground(term):
    """Tell whether a term has no variables."""
    return all([node[0] != "var" for node in occurrences(term)])


def size(term):
    """Return the number of terms in a term, itself included."""
    return len(occurrences(term))


def occurrences(term):
    """List the term and the terms inside it from left to right, each as often as it occurs."""
    found = []
    pending = [term]
    while pending:
        node = pending.pop()
        found.append(node)
        for item in reversed(node):
            if isinstance(item, tuple):
                pending.append(item)
    return found


def levels_of(term):
    """Return how many levels of parentheses the written form of a term has."""
    many = 0
    level = [term]
    while level:
        many += 1
        level = _inner_level(level)
    return many


def is_too_large(term):
    """Tell whether a term has a size of more than 2000 or more than 200 levels."""
    # A term may share its parts and be far larger than what was built, so this counts no further than it must.
    many = 0
    levels = 0
    level = [term]
    while level and many <= LARGEST_SIZE and levels <= MOST_LEVELS:
        many += len(level)
        levels += 1
        level = _inner_level(level)
    return many > LARGEST_SIZE or levels > MOST_LEVELS


def _inner_level(level):
    return [item for node in level for item in node if isinstance(item, tuple)]


def rebuilt(term, make):
    """Return the term with each term in it replaced by what make returns for it, from the inside out."""
    inner = []
    for node in reversed(occurrences(term)):
        items = []
        for item in node:
            if isinstance(item, tuple):
                items.append(inner.pop())
            else:
                items.append(item)
        inner.append(make(tuple(items)))
    return inner[0]


def parts(term):
    """Return the distinct parts of a term, each at its first place."""
    return parts_of_row((term,))


def parts_of_row(row):
    """Return the distinct parts of the terms of a row, each at its first place."""
    found = {}
    for term in row:
        nodes = occurrences(term)
        for key, node in zip(_keys_of(nodes), nodes):
            found.setdefault(key, node)
    return tuple(found.values())


def _keys_of(nodes):
    """List the written forms of all that occurs in a term, in the order of occurrences."""
    keys = []
    inner = []
    for node in reversed(nodes):
        key = _written(node, inner)
        inner.append(key)
        keys.append(key)
    keys.reverse()
    return keys


def _written(node, inner):
    """Write a term, taking the written forms of the terms inside from the end of a list."""
    words = []
    for item in node:
        if isinstance(item, tuple):
            words.append(inner.pop())
        else:
            words.append(str(item))
    return "(" + " ".join(words) + ")"


def variables(term):
    """Return the variables of a term, each once, in ascending order."""
    found = {node: True for node in occurrences(term) if node[0] == "var"}
    return in_order(tuple(found))


def key_of(term):
    """Return the written form of a term."""
    # From the right to the left, what stands inside a term is written ahead of the term.
    inner = []
    for node in reversed(occurrences(term)):
        inner.append(_written(node, inner))
    return inner[0]


def _rank(term):
    return (size(term), key_of(term))


def is_less(first, second):
    """Tell whether the first term is less: by size, then by the written form."""
    return _rank(first) < _rank(second)


def in_order(row):
    """Return the terms of a row in ascending order, each as often as it occurs."""
    return tuple(sorted(row, key=_rank))


class Stock:
    """Numbers for the distinct parts of some terms; what stands inside a term has lesser numbers.

    For each number there are the term, its written form, its size, and the numbers of the
    terms inside from left to right.
    """

    def __init__(self):
        self.terms = []
        self.texts = []
        self.sizes = []
        self.inner = []
        self.numbers = {}

    def number_of(self, term):
        """Return the number of a term; the term and its parts get numbers if they have none."""
        numbers = []
        for node in reversed(occurrences(term)):
            numbers.append(self._number_one(node, numbers))
        return numbers[0]

    def _number_one(self, node, numbers):
        """Return the number of a term, taking the numbers of the terms inside from the end of a list."""
        inner = []
        words = []
        for item in node:
            if isinstance(item, tuple):
                inner.append(numbers.pop())
                words.append(self.texts[inner[-1]])
            else:
                words.append(str(item))
        text = "(" + " ".join(words) + ")"
        if text not in self.numbers:
            self.numbers[text] = len(self.terms)
            self.terms.append(node)
            self.texts.append(text)
            self.sizes.append(1 + sum([self.sizes[at] for at in inner]))
            self.inner.append(tuple(inner))
        return self.numbers[text]

    def ascending(self, numbers):
        """Return the terms with these numbers in ascending order."""
        return tuple([self.terms[at] for at in sorted(numbers, key=self._place)])

    def _place(self, at):
        return (self.sizes[at], self.texts[at])
