"""Rows that look alike, and tests that tell other rows apart.

Two rows are compared by recipes that have a value on each of them. The recipes come in
the order of their sizes: letters, free atoms, what they open, and what they compose. A
recipe that works on one row only is a test, and so are two recipes whose values are
equal on one row only. Recipes and values may share their parts and be far too large to
be written, so they are numbered and measured as they are made.
"""

from heapq import heappop, heappush

from muffline.errors import BadRows, TooLarge
from muffline.patterns import own_items
from muffline.recipes import OPENED_KINDS, cook, is_free
from muffline.runs import replay
from muffline.terms import LARGEST_SIZE, MOST_LEVELS, occurrences

LARGEST_VALUE = 100000

SIDES = (0, 1)


def tells(good, first, second, test):
    """Tell whether a test tells two rows apart."""
    _check_lengths(first, second)
    ones = [cook(good, first, recipe) for recipe in test[1:]]
    others = [cook(good, second, recipe) for recipe in test[1:]]
    if test[0] == "works":
        return (ones[0] is None) != (others[0] is None)
    if None in ones or None in others:
        return False
    return (ones[0] == ones[1]) != (others[0] == others[1])


def tell_apart(good, first, second):
    """Return a test that tells two rows apart, or None if they are alike."""
    _check_lengths(first, second)
    comparison = Comparison(good, first, second)
    found = comparison.next_test()
    if found is None:
        return None
    while found is not None:
        word, *recipes = found
        if all([_is_small(made) for made in recipes]):
            return (word, *[made.recipe for made in recipes])
        found = comparison.next_test()
    raise TooLarge()


def _check_lengths(first, second):
    if len(first) != len(second):
        raise BadRows()


def _is_small(made):
    return made.size <= LARGEST_SIZE and made.levels <= MOST_LEVELS and made.largest <= LARGEST_VALUE


def runs_alike(first_world, first_run, second_world, second_run):
    """Tell whether two runs have the same schedule, send in the same moves, and have rows that are alike."""
    _, _, first = replay(first_world, first_run)
    _, _, second = replay(second_world, second_run)
    if first_world.good != second_world.good:
        raise BadRows()
    if _moves_seen(first_run) != _moves_seen(second_run):
        return False
    return Comparison(first_world.good, first, second).next_test() is None


def _moves_seen(run):
    return [(session, recipe is None) for session, recipe in run]


class Values:
    """Numbers for ground terms: for each number its kind with its names, the numbers inside, and its size."""

    def __init__(self):
        self.heads = []
        self.inner = []
        self.sizes = []
        self.numbers = {}

    def number_of(self, term):
        """Return the number of a term."""
        numbers = []
        for node in reversed(occurrences(term)):
            inner = [numbers.pop() for item in node if isinstance(item, tuple)]
            numbers.append(self.composed(tuple(own_items(node)), inner))
        return numbers[0]

    def composed(self, head, inner):
        """Return the number of the term with a head and with the numbers of what is inside."""
        key = (head, tuple(inner))
        if key not in self.numbers:
            self.numbers[key] = len(self.heads)
            self.heads.append(head)
            self.inner.append(tuple(inner))
            self.sizes.append(1 + sum([self.sizes[at] for at in inner]))
        return self.numbers[key]

    def half_for(self, number):
        """Return the number of the private half that opens a box, or makes a stamp."""
        return self.composed(("own", self.heads[number][1]), ())

    def makings(self, number):
        """List the numbers from which a term is composed; none for an atom."""
        if self.heads[number][0] == "stamp":
            return [*self.inner[number], self.half_for(number)]
        return list(self.inner[number])

    def key_to(self, number):
        """Return the number of what must be known to open a term; None if nothing is needed or it never opens."""
        kind = self.heads[number][0]
        if kind == "lock":
            return self.inner[number][1]
        return self.half_for(number) if kind == "box" else None

    def content(self, word, names, number, keys):
        """Return the number of what an opening recipe takes out of a term, or None if it fails."""
        if self.heads[number] != (OPENED_KINDS[word], *names) or (keys and keys[0] != self.key_to(number)):
            return None
        return self.inner[number][1 if word == "right" else 0]

    def parts_of(self, numbers):
        """List the numbers of all parts of some terms, each once."""
        found = {}
        pending = list(numbers)
        while pending:
            at = pending.pop()
            if at not in found:
                found[at] = True
                pending.extend(self.inner[at])
        return list(found)


class Made:
    """A recipe, the numbers of its values on both rows (None where it fails), and its measures.

    Composed recipes are not opened: what they give away is there already. The largest is
    the size of the largest value inside on the two rows.
    """

    def __init__(self, recipe, on, opens, size, levels, largest):
        self.recipe = recipe
        self.on = on
        self.opens = opens
        self.size = size
        self.levels = levels
        self.largest = largest


class Comparison:
    """A comparison of two rows of equal length, recipe by recipe.

    A recipe is kept if it is the first with its values. On each side there are the kept
    recipe of each value, the recipes that wait for a key, the terms that each value helps
    to compose, and how many values a term still waits for.
    """

    def __init__(self, good, first, second):
        self.stock = Values()
        self.queue = []
        self.recipes = []
        self.best = ({}, {})
        self.waiting = ({}, {})
        self.users = ({}, {})
        self.due = ({}, {})
        letters = [[self.stock.number_of(term) for term in row] for row in (first, second)]
        for side in SIDES:
            self._set_up(side, letters[side])
        for at, on in enumerate(zip(*letters)):
            self._propose(("letter", at), on, True, [])
        for number, head in enumerate(list(self.stock.heads)):
            if is_free(good, head):
                self._propose(("free", head), (number, number), False, [])

    def _set_up(self, side, letters):
        """Note which parts of a row each of its parts helps to compose."""
        for number in self.stock.parts_of(letters):
            if self.stock.key_to(number) is not None:
                self.waiting[side].setdefault(self.stock.key_to(number), [])
            makings = self.stock.makings(number)
            self.due[side][number] = len(makings)
            for at in makings:
                self.users[side].setdefault(at, []).append(number)

    def _propose(self, recipe, on, opens, inner):
        """Put a recipe into the queue, with the recipes inside it."""
        made = self._measured(recipe, on, opens, inner)
        heappush(self.queue, (made.size, len(self.recipes)))
        self.recipes.append(made)

    def _measured(self, recipe, on, opens, inner):
        size = 1 + sum([one.size for one in inner])
        levels = 1 + max([one.levels for one in inner], default=0)
        if recipe[0] == "free":
            levels += 1
        found = [self.stock.sizes[number] for number in on if number is not None]
        largest = max([*found, *[one.largest for one in inner]], default=0)
        return Made(recipe, on, opens, size, levels, largest)

    def next_test(self):
        """Return the next test that tells the rows apart, as a word and recipes that are made; None at the end."""
        while self.queue:
            _, at = heappop(self.queue)
            found = self._test_by(self.recipes[at])
            if found is not None:
                return found
        return None

    def _test_by(self, made):
        """Return a test to which a recipe leads; without one, keep the recipe if its values are new."""
        if None in made.on:
            return ("works", made)
        for side in SIDES:
            rival = self.best[side].get(made.on[side])
            if rival is not None and rival.on != made.on:
                return ("equal", rival, made)
        if made.on[0] in self.best[0]:
            return None
        if made.on[0] != made.on[1]:
            for side in SIDES:
                if self.stock.heads[made.on[side]][0] == "own":
                    return ("works", self._stamp_with(side, made))
        self._keep(made)
        return None

    def _stamp_with(self, side, made):
        """Return the stamp of a word with a private half, where the other row has something else."""
        _, name = self.stock.heads[made.on[side]]
        # Where these two work, their values are small, so they are not noted.
        text = self._measured(("free", ("word", "a")), (), False, [])
        return self._measured(("stamp", text.recipe, made.recipe, name), (), False, [text, made])

    def _keep(self, made):
        """Note the values of a recipe, and propose what can now be opened and composed."""
        for side in SIDES:
            self.best[side][made.on[side]] = made
        for side in SIDES:
            number = made.on[side]
            for shut in self.waiting[side].get(number, []):
                self._propose_key(side, shut, made)
            for user in self.users[side].get(number, []):
                self.due[side][user] -= 1
                if self.due[side][user] == 0:
                    self._propose_composed(side, user)
            if made.opens:
                self._propose_opened(side, made)

    def _propose_opened(self, side, made):
        """Propose what opens the value of a recipe on one side, or let it wait for its key."""
        number = made.on[side]
        kind, *names = self.stock.heads[number]
        key = self.stock.key_to(number)
        if kind == "pair":
            self._propose_content("left", [made], [])
            self._propose_content("right", [made], [])
        elif kind == "stamp":
            self._propose_content("unstamp", [made], names)
        elif key is not None and key in self.best[side]:
            self._propose_key(side, made, self.best[side][key])
        elif key is not None:
            self.waiting[side][key].append(made)

    def _propose_key(self, side, shut, key):
        kind, *names = self.stock.heads[shut.on[side]]
        self._propose_content("unlock" if kind == "lock" else "unbox", [shut, key], names)

    def _propose_content(self, word, inner, names):
        """Propose an opening recipe with the recipes inside it; it may fail on one of the rows."""
        on = []
        for side in SIDES:
            number, *keys = [one.on[side] for one in inner]
            on.append(self.stock.content(word, names, number, keys))
        recipe = (word, *[one.recipe for one in inner], *names)
        self._propose(recipe, tuple(on), True, inner)

    def _propose_composed(self, side, number):
        """Propose the recipe that composes a part of one row; it composes something on the other row, too."""
        head = self.stock.heads[number]
        inner = [self.best[side][at] for at in self.stock.makings(number)]
        many = len(self.stock.inner[number])
        # A private half that is kept is the same on both sides, so also a stamp can be made on both.
        on = [self.stock.composed(head, [one.on[row] for one in inner[:many]]) for row in SIDES]
        recipe = (head[0], *[one.recipe for one in inner], *head[1:])
        self._propose(recipe, tuple(on), False, inner)
