"""Runs, claims and cases in the plainest way, for small things only, without the program's own modules for them.

Worlds are those of the program; of them only roles, sessions and good, and the steps are placed here again.
"""

import itertools

from tests import plain


class Impossible(Exception):
    """A move that cannot be done; its only argument is the index."""


def place(world, session, term):
    """A role term in a session."""
    name, hosts = world.sessions[session]
    capitals = [role for role in world.roles if role[0] == name][0][1]
    table = dict(zip(capitals, hosts))

    def placed(node):
        if node[0] in ("mark", "var"):
            return (node[0], session, node[1])
        items = [table.get(item, item) if isinstance(item, str) else placed(item) for item in node[1:]]
        return (node[0], *(sorted(items) if node[0] == "both" else items)) if node[0] != "word" else node

    return placed(term)


def steps_of(world, session):
    name = world.sessions[session][0]
    steps = [role for role in world.roles if role[0] == name][0][2]
    return [(word, place(world, session, term)) for word, term in steps]


# Point [19] and [20].

def replay(world, run):
    done, table, row = [0] * len(world.sessions), {}, []
    for at, (session, recipe) in enumerate(run):
        if session not in range(len(world.sessions)) or done[session] >= len(steps_of(world, session)):
            raise Impossible(at)
        word, term = steps_of(world, session)[done[session]]
        if (word == "send") != (recipe is None):
            raise Impossible(at)
        if word == "send":
            row.append(plain.apply(table.items(), term))
        else:
            letter = plain.cook(world.good, row, recipe)
            if letter is None or not plain.match(term, letter, table):
                raise Impossible(at)
        done[session] += 1
    return tuple(done), plain.in_order(table.items()), tuple(row)


def may_exchange(first, second):
    return second[0] < first[0] and not (first[1] is None and second[1] is not None)


def exchangeable(run):
    return [at for at in range(len(run) - 1) if may_exchange(run[at], run[at + 1])]


def exchange(run, at):
    """The run with the moves at and at + 1 exchanged."""
    first, second = run[at], run[at + 1]
    rest = list(run[at + 2:])
    if first[1] is None and second[1] is None:
        letter = len([recipe for _, recipe in run[:at] if recipe is None])
        table = {letter: letter + 1, letter + 1: letter}
        rest = [(session, renumber(recipe, table)) for session, recipe in rest]
    return run[:at] + (second, first) + tuple(rest)


def renumber(recipe, table):
    if recipe is None or recipe[0] == "free":
        return recipe
    if recipe[0] == "letter":
        return ("letter", table.get(recipe[1], recipe[1]))
    return tuple(renumber(item, table) if isinstance(item, tuple) else item for item in recipe)


# Points [21] to [23].

def ended(world, session, done):
    return done[session] == len(steps_of(world, session))


def is_met(world, session, done, term):
    taken = [step[1] for step in steps_of(world, session)[:done[session]] if step[0] == "take"]
    return all(variable in plain.variables(*taken) for variable in plain.variables(term))


def partners(world, session, terms, role, steps, others, done, bindings):
    found = []
    for other in range(len(world.sessions)):
        if other == session or world.sessions[other][0] != role or done[other] < steps:
            continue
        pairs = zip([place(world, session, term) for term in terms], [place(world, other, term) for term in others])
        if all(plain.apply(bindings, one) == plain.apply(bindings, two) for one, two in pairs):
            found.append(other)
    return found


def disagrees(world, claim, done, bindings):
    if claim[0] == "agrees":
        _, session, terms, role, steps, others = claim
        return ended(world, session, done) and not partners(world, session, terms, role, steps, others, done, bindings)
    return crowd_of(world, claim, done, bindings) is not None


def all_matched(sessions, table):
    """Whether sessions can be given partners so that no two have the same: by trying all ways."""
    for choice in itertools.product(*[table[session] for session in sessions]):
        if len(set(choice)) == len(choice):
            return True
    return False


def crowd_of(world, claim, done, bindings):
    _, name, terms, role, steps, others = claim
    sessions = [at for at in range(len(world.sessions)) if world.sessions[at][0] == name and ended(world, at, done)]
    table = {at: partners(world, at, terms, role, steps, others, done, bindings) for at in sessions}
    groups = [group for many in range(len(sessions) + 1) for group in itertools.combinations(sessions, many)]
    crowds = [group for group in groups if len({other for at in group for other in table[at]}) < len(group)]
    assert (crowds == []) == all_matched(sessions, table)
    return min(crowds, key=lambda group: (len(group), group), default=None)


def broken(world, claim, run):
    done, bindings, row = replay(world, run)
    if claim[0] != "hidden":
        return disagrees(world, claim, done, bindings)
    term = place(world, claim[1], claim[2])
    return is_met(world, claim[1], done, term) and plain.reachable(world.good, row, plain.apply(bindings, term))


# Points [24] and [25], without sizes.

def unfold(world, claim, case):
    stage, schedule, row, demands, bindings = case
    open_demands = [at for at, (_, term) in enumerate(demands) if term[0] != "var"]
    if stage == "state":
        return None if open_demands else after_state(world, claim, case)
    if not open_demands:
        return None if stage == "goal" else (("state", schedule, row, demands, bindings),)
    at = open_demands[0]
    many, term = demands[at]
    letters = row[:many]
    if plain.reachable(world.good, letters + tuple(ahead for _, ahead in demands[:at]), term):
        return ((stage, schedule, row, demands[:at] + demands[at + 1:], bindings),)
    found = []
    if term[0] in plain.PLACES:
        below = plain.inner(term) + ([("own", term[2])] if term[0] == "stamp" else [])
        fresh = tuple((many, part) for part in below)
        found.append((stage, schedule, row, demands[:at] + fresh + demands[at + 1:], bindings))
    pieces = plain.all_parts(letters)
    keys = plain.all_parts([part[2] for part in pieces if part[0] == "lock"])
    for one, other in [(part, term) for part in pieces] + [(key, part) for key in keys for part in pieces]:
        if one != other and one[0] != "var" and other[0] != "var":
            unifier = plain.unify_rows((one,), (other,))
            if unifier is not None:
                found.append(bound(case, unifier))
    return tuple(item for place_, item in enumerate(found) if item not in found[:place_])


def bound(case, unifier):
    stage, schedule, row, demands, bindings = case
    both = [(variable, plain.apply(unifier, term)) for variable, term in bindings] + list(unifier)
    return (stage, schedule, tuple(plain.apply(unifier, term) for term in row),
            tuple((many, plain.apply(unifier, term)) for many, term in demands), plain.in_order(both))


def after_state(world, claim, case):
    _, schedule, row, demands, bindings = case
    done = [schedule.count(session) for session in range(len(world.sessions))]
    found = []
    if claim[0] != "hidden":
        if disagrees(world, claim, done, bindings):
            return None
    else:
        term = place(world, claim[1], claim[2])
        if is_met(world, claim[1], done, term):
            found.append(("goal", schedule, row, demands + ((len(row), plain.apply(bindings, term)),), bindings))
    for session in range(len(world.sessions)):
        if ended(world, session, done):
            continue
        word, term = steps_of(world, session)[done[session]]
        if schedule:
            last = schedule[-1]
            last_word = steps_of(world, last)[done[last] - 1][0]
            if session < last and not (last_word == "send" and word == "take"):
                continue
        term = plain.apply(bindings, term)
        if word == "send":
            found.append(("state", schedule + (session,), row + (term,), demands, bindings))
        else:
            found.append(("move", schedule + (session,), row, demands + ((len(row), term),), bindings))
    return tuple(found)


def case_variables(case):
    _, _, row, demands, bindings = case
    return plain.variables(*row, *[term for _, term in demands], *[term for _, term in bindings])


def is_filling(good, case, filling):
    """Whether a dict of ground terms for all variables of a case fills it."""
    _, _, row, demands, _ = case
    pairs = list(filling.items())
    row = [plain.apply(pairs, term) for term in row]
    return all(plain.reachable(good, row[:many], plain.apply(pairs, term)) for many, term in demands)
