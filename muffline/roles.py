"""Roles: their terms, whether a host can play them, and their terms in a session."""

from muffline.errors import BadRole
from muffline.forms import forms_within, is_capital, is_name
from muffline.recipes import can_build, opened
from muffline.terms import levels_of, occurrences, parts, rebuilt, size, variables

MOST_PARAMETERS = 4

MOST_STEPS = 6

LARGEST_ROLE_TERM = 30

DEEPEST_ROLE_TERM = 8


def check_role(role):
    """Raise BadRole if a value of any form is no sound role."""
    fault = fault_of(role)
    if fault is not None:
        raise BadRole(fault)


def fault_of(role):
    """Return the least number of a wrong step, or -1 if the rest is wrong; None for a sound role."""
    if not _has_form(role):
        return -1
    _, parameters, steps = role
    known = ()
    for at, step in enumerate(steps):
        if not _is_step(step, parameters):
            return at
        word, term = step
        if not _keys_fit(term, parameters[0]):
            return at
        # The order in both is free, and place_term puts all of them in one order.
        placed = place_term(term, (), (), 0)
        if word == "send":
            if not _can_send(placed, parameters[0], known):
                return at
        elif not _can_take(placed, parameters[0], known):
            return at
        else:
            known = known + variables(placed)
    return None


def _has_form(role):
    """Tell whether a value is a triple with a name, parameters and a tuple of not too many steps."""
    if not isinstance(role, tuple) or len(role) != 3:
        return False
    name, parameters, steps = role
    if not isinstance(parameters, tuple) or not 1 <= len(parameters) <= MOST_PARAMETERS:
        return False
    if not all([is_capital(capital) for capital in parameters]) or len(set(parameters)) < len(parameters):
        return False
    return is_name(name) and isinstance(steps, tuple) and len(steps) <= MOST_STEPS


def _is_step(step, parameters):
    if not isinstance(step, tuple) or len(step) != 2 or step[0] not in ("send", "take"):
        return False
    return is_role_term(step[1], parameters) and is_small(step[1])


def is_small(term):
    """Tell whether a role term is small enough for a step or a claim."""
    return role_size(term) <= LARGEST_ROLE_TERM and role_depth(term) <= DEEPEST_ROLE_TERM


def _keys_fit(term, player):
    """Tell whether all private halves, and one end of each key of two hosts, are the player's."""
    for node in occurrences(term):
        if node[0] == "own" and node[1] != player:
            return False
        if node[0] == "both" and player not in node[1:]:
            return False
    return True


def _can_send(term, player, known):
    return can_build(_others_in(term, player), known + _marks_in(term), term)


def _can_take(term, player, known):
    there = opened(_others_in(term, player), known + _marks_in(term) + (term,))
    return all([variable in there for variable in variables(term)])


def _others_in(term, player):
    """Return the hosts in a term but for the player.

    With them as the good hosts, the free atoms are those that the player can make: hosts,
    words, the player's own half and the player's keys.
    """
    return tuple([host for host in hosts_in(term) if host != player])


def _marks_in(term):
    return tuple([part for part in parts(term) if part[0] == "mark"])


def hosts_in(term):
    """List the names and capitals that stand for hosts in a term or a role term."""
    found = []
    for node in occurrences(term):
        if node[0] in ("host", "own", "both"):
            found.extend(node[1:])
        elif node[0] in ("box", "stamp"):
            found.append(node[2])
    return found


def is_role_term(value, capitals):
    """Tell whether a value of any form is a role term whose capitals are among the given ones."""
    return forms_within(value, "role term", capitals) is not None


def role_size(term):
    """Return the number of role terms in a role term, itself included."""
    return size(term)


def role_depth(term):
    """Return the number of levels of a role term; an atom or a variable has one."""
    return levels_of(term)


def place_term(term, capitals, hosts, session):
    """Return the term of a session: with its hosts for the capitals, and its number in marks and variables."""
    table = dict(zip(capitals, hosts))
    return rebuilt(term, lambda node: _placed(node, table, session))


def _placed(node, table, session):
    if node[0] in ("mark", "var"):
        return (node[0], session, node[1])
    return with_hosts(node, table)


def with_hosts(node, table):
    """Return a term with the hosts that stand in it itself replaced; both has its two in ascending order."""
    kind = node[0]
    if kind in ("host", "own"):
        return (kind, table.get(node[1], node[1]))
    if kind == "both":
        return (kind, *sorted([table.get(host, host) for host in node[1:]]))
    if kind in ("box", "stamp"):
        return (kind, node[1], table.get(node[2], node[2]))
    return node
