"""Worlds that are joined, worlds that fall into parts, and runs of one part alone."""

from muffline.errors import BadJoin
from muffline.forms import LETTERS, is_name
from muffline.patterns import apply_bindings
from muffline.recipes import recipe_for
from muffline.roles import hosts_in, with_hosts
from muffline.runs import replay
from muffline.terms import in_order, occurrences, parts_of_row, rebuilt
from muffline.worlds import World, role_named


def join_worlds(first, second):
    """Return the world with the roles, the sessions and the good hosts of two worlds."""
    roles = list(first.roles)
    for role in second.roles:
        known = role_named(first.roles, role[0])
        if known is None:
            roles.append(role)
        elif known != role:
            raise BadJoin()
    good = tuple(sorted(set(first.good + second.good)))
    return World(tuple(roles), first.sessions + second.sessions, good)


def apart(world, many):
    """Tell whether the first sessions of a world and the rest share no good host and no role."""
    first, rest = world.sessions[:many], world.sessions[many:]
    used = [name for name, _ in rest]
    if any([name in used for name, _ in first]):
        return False
    named = _good_hosts_named(world, rest)
    return not any([host in named for host in _good_hosts_named(world, first)])


def _good_hosts_named(world, sessions):
    """List the good hosts that are hosts of some sessions or stand as names in their roles, ascending."""
    found = []
    for name, hosts in sessions:
        found.extend(hosts)
        for _, term in role_named(world.roles, name)[2]:
            found.extend(hosts_in(term))
    return [host for host in world.good if host in found]


def project(world, many, run):
    """Return a run of the first sessions alone that does the same moves of theirs as a run of the world."""
    if not apart(world, many):
        raise BadJoin()
    _, bindings, row = replay(world, run)
    hosts = _fresh_hosts(world, many, run)
    marks = _fresh_marks(many, run, row + tuple([term for _, term in bindings]))
    done = [0] * many
    letters = ()
    moves = []
    for session, recipe in run:
        if session < many:
            _, term = world.steps_of(session)[done[session]]
            done[session] += 1
            letter = _replaced(apply_bindings(bindings, term), hosts, marks)
            if recipe is None:
                letters = (*letters, letter)
                moves.append((session, None))
            else:
                moves.append((session, recipe_for(world.good, letters, letter)))
    return tuple(moves)


def _fresh_hosts(world, many, run):
    """Return a dict of new names for the good hosts that the rest of the sessions name."""
    used = _names_used(world, run)
    table = {}
    name = ""
    for host in _good_hosts_named(world, world.sessions[many:]):
        name = _name_after(name)
        while name in used:
            name = _name_after(name)
        table[host] = name
    return table


def _names_used(world, run):
    """Return a dict of all names of any kind that occur in a world or in a run."""
    found = [*world.good]
    for name, hosts in world.sessions:
        found.extend([name, *hosts])
    for name, _, steps in world.roles:
        found.extend([name, *_names_in([term for _, term in steps])])
    found.extend(_names_in(_recipes_of(run)))
    return {name: True for name in found}


def _recipes_of(run):
    return [recipe for _, recipe in run if recipe is not None]


def _names_in(terms):
    """List the names that stand in role terms or recipes; the first item of each is its kind."""
    return [item for term in terms for node in occurrences(term) for item in node[1:] if is_name(item)]


def _name_after(name):
    """Return the next name in the order of length and then of letters."""
    head = name.rstrip("z")
    many = len(name) - len(head)
    if head == "":
        return "a" * (many + 1)
    return head[:-1] + LETTERS[LETTERS.index(head[-1]) + 1] + "a" * many


def _fresh_marks(many, run, terms):
    """Return a dict of new road marks for the marks of the rest of the sessions that occur in some terms."""
    numbers = [node[1] for recipe in _recipes_of(run) for node in occurrences(recipe) if node[0] == "road"]
    least = max(numbers, default=-1) + 1
    marks = in_order([part for part in parts_of_row(terms) if part[0] == "mark" and part[1] >= many])
    return {mark: ("road", number) for number, mark in enumerate(marks, start=least)}


def _replaced(term, hosts, marks):
    """Return a term with other hosts and with road marks for some marks."""
    return rebuilt(term, lambda node: marks.get(node, node) if node[0] == "mark" else with_hosts(node, hosts))
