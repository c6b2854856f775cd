"""Bindings of variables: applying them, matching a term and unifying terms."""

from muffline.errors import TooLarge
from muffline.terms import Stock, is_too_large, rebuilt


def apply_bindings(bindings, term):
    """Return a term with each variable of a binding row replaced once, all at the same time."""
    if len(bindings) == 0:
        return term
    return _replaced(dict(bindings), term)


def apply_to_row(bindings, row):
    """Return a row with the bindings applied to each term."""
    if len(bindings) == 0:
        return row
    table = dict(bindings)
    return tuple([_replaced(table, term) for term in row])


def _replaced(table, term):
    return rebuilt(term, lambda node: table[node] if node[0] == "var" and node in table else node)


def chain_bindings(first, second):
    """Return the binding row that has the effect of applying the first one and then the second."""
    table = dict(second)
    for variable, term in first:
        table[variable] = apply_bindings(second, term)
    return _binding_row(table)


def _binding_row(table):
    # All variables have the same size, and the order of their items is that of their written forms.
    return tuple(sorted(table.items(), key=lambda pair: pair[0]))


def match_term(pattern, term, bindings):
    """Return the bindings with those added that make a pattern a ground term, or None."""
    table = dict(bindings)
    pending = [(pattern, term)]
    while pending:
        form, value = pending.pop()
        if form[0] == "var":
            if table.setdefault(form, value) != value:
                return None
        elif own_items(form) != own_items(value):
            return None
        else:
            pending.extend(list(zip(inner_terms(form), inner_terms(value))))
    return _binding_row(table)


def own_items(term):
    """List the items of a term that are no terms themselves."""
    return [item for item in term if not isinstance(item, tuple)]


def inner_terms(term):
    """List the items of a term that are terms."""
    return [item for item in term if isinstance(item, tuple)]


def unify(first, second):
    """Return the most general binding row that makes two terms equal, or None."""
    return unify_rows((first,), (second,))


def unify_rows(first, second):
    """Return the most general binding row that makes two rows of equal length equal, or None."""
    stock = Stock()
    pairs = [(stock.number_of(one), stock.number_of(other)) for one, other in zip(first, second)]
    return unify_numbers(stock, pairs)


def unify_numbers(stock, pairs):
    """Unify terms that are given by pairs of their numbers in a stock."""
    classes = Classes(stock)
    if not classes.join_all(pairs):
        return None
    terms = classes.replacements()
    if terms is None:
        return None
    for term in terms.values():
        if is_too_large(term):
            raise TooLarge()
    return _binding_row(terms)


class Classes:
    """Classes of numbers of a stock whose terms must become equal.

    Each class has a root. What no other number was joined to is a class by itself.
    """

    def __init__(self, stock):
        self.stock = stock
        self.above = {}
        self.forms = {}
        self.members = {}

    def root_of(self, at):
        """Return the root of the class of a number."""
        root = at
        while root in self.above:
            root = self.above[root]
        # Later searches from here shall be short.
        while at != root:
            higher = self.above[at]
            self.above[at] = root
            at = higher
        return root

    def form_of(self, root):
        """Return the number of a term of the class that is no variable, or None."""
        if root in self.forms or self.stock.terms[root][0] == "var":
            return self.forms.get(root)
        return root

    def variables_of(self, root):
        """Return the variables of a class."""
        if root in self.members:
            return self.members[root]
        term = self.stock.terms[root]
        return (term,) if term[0] == "var" else ()

    def join_all(self, pairs):
        """Join the classes of each pair, and of what then must be equal inside; tell whether this is possible."""
        pending = list(pairs)
        while pending:
            first, second = pending.pop()
            one, other = self.root_of(first), self.root_of(second)
            if one != other:
                form, other_form = self.form_of(one), self.form_of(other)
                if form is not None and other_form is not None:
                    if not self._are_alike(form, other_form):
                        return False
                    pending.extend(list(zip(self.stock.inner[form], self.stock.inner[other_form])))
                self._join(one, other, other_form if form is None else form)
        return True

    def _are_alike(self, one, other):
        return own_items(self.stock.terms[one]) == own_items(self.stock.terms[other])

    def _join(self, one, other, form):
        """Put two classes together under the first root, with the number of a form or None."""
        self.members[one] = self.variables_of(one) + self.variables_of(other)
        self.above[other] = one
        if form is not None:
            self.forms[one] = form

    def replacements(self):
        """Return a dict of the terms that replace variables; None if one would contain itself."""
        made = {}
        roots = [root for root in self.members if root not in self.above]
        for root in roots:
            if self.members[root] and not self._make(root, made):
                return None
        table = {}
        for root in roots:
            for variable in self.members[root]:
                if made[root] != variable:
                    table[variable] = made[root]
        return table

    def _make(self, root, made):
        """Put the term of a class into a table, after those of the classes inside; tell whether this ends."""
        begun = {}
        pending = [root]
        while pending:
            at = pending[-1]
            below = self._roots_inside(at)
            due = [inner for inner in below if inner not in made]
            if len(due) == 0:
                made[at] = self._term_of(at, [made[inner] for inner in below])
                pending.pop()
            else:
                begun[at] = True
                if any([inner in begun for inner in due]):
                    return False
                pending.extend(due)
        return True

    def _roots_inside(self, root):
        form = self.form_of(root)
        return [] if form is None else [self.root_of(at) for at in self.stock.inner[form]]

    def _term_of(self, root, inner):
        """Return the term of a class, with the terms inside it given."""
        form = self.form_of(root)
        if form is None:
            return min(self.variables_of(root))
        return _with_inner(self.stock.terms[form], inner)


def _with_inner(term, inner):
    """Return a term with other terms inside."""
    kind, *names = own_items(term)
    return (kind, *inner, *names)
