"""What the road can put together from a row of letters.

The functions number all parts of the terms in question (Stock). What is open and what
can be built then follows from rules between these numbers, and a least recipe is found
by going through the recipes of the numbers in ascending order.
"""

from heapq import heappop, heappush

from muffline.errors import TooLarge
from muffline.forms import PLACES, forms_within
from muffline.terms import LARGEST_SIZE, MOST_LEVELS, Stock, key_of, levels_of, occurrences

PLAINLY_COMPOSING = ("pair", "lock", "digest", "box")

# The kind of term that each opening recipe opens.
OPENED_KINDS = {"left": "pair", "right": "pair", "unstamp": "stamp", "unlock": "lock", "unbox": "box"}


def is_free(good, atom):
    """Tell whether the road can make an atom by itself; what is no atom is never free."""
    kind = atom[0]
    if kind == "own":
        return atom[1] not in good
    if kind == "both":
        return atom[1] not in good or atom[2] not in good
    return kind in ("host", "word", "road")


def cook(good, row, recipe):
    """Return the value of a recipe, which may be a value of any form; None if it fails."""
    nodes = forms_within(recipe, "recipe", ())
    if nodes is None:
        return None
    values = []
    for node in reversed(nodes):
        inner = [values.pop() for item in node if isinstance(item, tuple)]
        value = _value_of(good, row, node, inner)
        if value is None:
            return None
        values.append(value)
    return values[0]


def _value_of(good, row, node, inner):
    """Return the value of a recipe whose inner values are given, or None; an atom is its own value."""
    kind = node[0]
    if kind == "letter":
        return row[node[1]] if node[1] < len(row) else None
    if kind == "free":
        return inner[0] if is_free(good, inner[0]) else None
    if kind in OPENED_KINDS:
        return _content(node, inner)
    if kind == "stamp":
        return ("stamp", inner[0], node[3]) if inner[1] == ("own", node[3]) else None
    if kind in PLAINLY_COMPOSING:
        return (kind, *inner, *_names_of(node))
    return node


def _content(node, inner):
    """Return what an opening recipe takes out of the first inner value, or None."""
    kind, term = node[0], inner[0]
    if term[0] != OPENED_KINDS[kind] or _names_of(node) != _names_of(term):
        return None
    if kind == "unlock" and inner[1] != term[2]:
        return None
    if kind == "unbox" and inner[1] != ("own", node[3]):
        return None
    return term[2] if kind == "right" else term[1]


def _names_of(term):
    """Return the names that stand in a composed term or a recipe itself, behind its kind."""
    return tuple([item for item in term[1:] if isinstance(item, str)])


def recipe_size(recipe):
    """Return the number of recipes in a recipe, itself included."""
    return len([node for node in occurrences(recipe) if ("recipe", node[0]) in PLACES])


def opened(good, row):
    """Return the opened row of a row: the row and all that can be opened, ascending, each once."""
    stock, letters = _stock_of(row, ())
    there, _ = _follow_up(good, stock, letters, True)
    return _listed(stock, there)


def _listed(stock, there):
    return stock.ascending([at for at, holds in enumerate(there) if holds])


def can_build(good, terms, term):
    """Tell whether a term can be built from some terms without opening any."""
    stock, numbers = _stock_of(terms, (term,))
    _, built = _follow_up(good, stock, numbers, False)
    return built[stock.number_of(term)]


def reachable(good, row, term):
    """Tell whether a term is the value of a recipe on a row."""
    stock, letters = _stock_of(row, (term,))
    _, built = _follow_up(good, stock, letters, True)
    return built[stock.number_of(term)]


def wall_for(good, row, term):
    """Return the opened row if it shows that a term is not reachable, else None."""
    stock, letters = _stock_of(row, (term,))
    there, built = _follow_up(good, stock, letters, True)
    if built[stock.number_of(term)]:
        return None
    return _listed(stock, there)


def wall_holds(good, row, term, wall):
    """Tell whether a tuple of terms shows that a term is not reachable from a row."""
    stock, numbers = _stock_of(wall, (*row, term))
    there, built = _follow_up(good, stock, numbers, False)
    if built[stock.number_of(term)] or not all([there[stock.number_of(letter)] for letter in row]):
        return False
    for at in numbers:
        for _, needed, content in _openings(stock, at):
            if all([built[key] for key in needed]) and not there[content]:
                return False
    return True


def recipe_for(good, row, term):
    """Return the least recipe whose value on a row is a term; None if there is none."""
    stock, letters = _stock_of(row, (term,))
    goal = stock.number_of(term)
    _, built = _follow_up(good, stock, letters, True)
    if not built[goal]:
        return None
    recipe = _least_recipe(_ways(good, stock, letters), len(stock.terms), goal)
    if recipe is None or levels_of(recipe) > MOST_LEVELS:
        raise TooLarge()
    return recipe


def _stock_of(row, others):
    """Return a stock of all parts and the halves that open or stamp them, and the numbers of a row."""
    stock = Stock()
    numbers = [stock.number_of(term) for term in row]
    for term in others:
        stock.number_of(term)
    for term in list(stock.terms):
        if term[0] in ("box", "stamp"):
            stock.number_of(("own", term[2]))
    return stock, numbers


def _openings(stock, at):
    """List what a term gives away: (word of the recipe, numbers that must be built, number of the content)."""
    term, inner = stock.terms[at], stock.inner[at]
    if term[0] == "pair":
        return [("left", (), inner[0]), ("right", (), inner[1])]
    if term[0] == "stamp":
        return [("unstamp", (), inner[0])]
    if term[0] == "lock":
        return [("unlock", (inner[1],), inner[0])]
    if term[0] == "box":
        return [("unbox", (_half(stock, term[2]),), inner[0])]
    return []


def _makings(stock, at):
    """List the numbers from which a term is composed; none for atoms and variables."""
    term = stock.terms[at]
    if term[0] == "stamp":
        return [stock.inner[at][0], _half(stock, term[2])]
    return list(stock.inner[at])


def _half(stock, name):
    return stock.numbers["(own " + name + ")"]


def _follow_up(good, stock, numbers, opening):
    """Tell for each number whether it is there and whether it can be built, beginning with some numbers.

    With opening, what is there is opened as far as possible; otherwise nothing else is there.
    """
    many = len(stock.terms)
    rules = [((), at) for at in numbers]
    for at in range(many):
        rules.append(((at,), many + at))
        if is_free(good, stock.terms[at]):
            rules.append(((), many + at))
        makings = _makings(stock, at)
        if makings:
            rules.append((tuple([many + key for key in makings]), many + at))
        if opening:
            for _, needed, content in _openings(stock, at):
                rules.append(((at, *[many + key for key in needed]), content))
    holds = _consequences(rules, 2 * many)
    return holds[:many], holds[many:]


def _consequences(rules, many):
    """Tell for each of many facts whether it follows from rules (facts that are needed, fact that follows)."""
    holds = [False] * many
    due = [len(needed) for needed, _ in rules]
    users = _users(rules, many)
    agenda = [fact for needed, fact in rules if len(needed) == 0]
    while agenda:
        fact = agenda.pop()
        if not holds[fact]:
            holds[fact] = True
            for at in users[fact]:
                due[at] -= 1
                if due[at] == 0:
                    agenda.append(rules[at][1])
    return holds


def _users(rules, many):
    """List for each fact the places of the rules that need it, as often as they do."""
    users = [[] for _ in range(many)]
    for at, rule in enumerate(rules):
        for fact in rule[0]:
            users[fact].append(at)
    return users


def _ways(good, stock, letters):
    """List the ways to get a number: (numbers needed, number, head of the recipe, names behind it)."""
    ways = [((), number, ("letter", at), ()) for at, number in enumerate(letters)]
    for at in range(len(stock.terms)):
        term = stock.terms[at]
        if is_free(good, term):
            ways.append(((), at, ("free", term), ()))
        makings = _makings(stock, at)
        if makings:
            ways.append((tuple(makings), at, (term[0],), _names_of(term)))
        for word, needed, content in _openings(stock, at):
            ways.append(((at, *needed), content, (word,), _names_of(term)))
    return ways


def _least_recipe(ways, many, goal):
    """Return the least recipe of a number, or None if its size is more than 2000.

    A recipe is greater than each one inside it, and it grows if one inside it grows, so the
    recipes that come out of the queue are least ones, in ascending order.
    """
    found = [None] * many
    due = [len(way[0]) for way in ways]
    users = _users(ways, many)
    queue = []
    for at, way in enumerate(ways):
        if due[at] == 0:
            heappush(queue, _candidate(at, way, found))
    while queue and found[goal] is None:
        count, text, at = heappop(queue)
        needed, number, head, names = ways[at]
        if found[number] is None:
            found[number] = (count, text, (*head, *[found[key][2] for key in needed], *names))
            for user in users[number]:
                due[user] -= 1
                if due[user] == 0 and _size_of(ways[user], found) <= LARGEST_SIZE:
                    heappush(queue, _candidate(user, ways[user], found))
    return None if found[goal] is None else found[goal][2]


def _size_of(way, found):
    return 1 + sum([found[key][0] for key in way[0]])


def _candidate(at, way, found):
    """Return the size and the written form of the recipe that a way gives, and the way's place."""
    needed, _, head, names = way
    words = [key_of(head)[:-1], *[found[key][1] for key in needed], *names]
    return (_size_of(way, found), " ".join(words) + ")", at)
