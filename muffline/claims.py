"""Claims: whether they fit a world, and whether a run breaks them.

The claims agrees and each have the same items behind the second one: the terms, the
other role, its number of steps, and the other terms.
"""

from itertools import combinations

from muffline.errors import BadClaim
from muffline.forms import is_name
from muffline.patterns import apply_bindings
from muffline.recipes import reachable, recipe_for
from muffline.roles import hosts_in, is_role_term, is_small, place_term
from muffline.runs import replay
from muffline.terms import parts_of_row, variables
from muffline.worlds import role_named


def check_claim(world, claim):
    """Raise BadClaim if a value of any form is no claim that fits a world."""
    if not _fits(world, claim):
        raise BadClaim()


def _fits(world, claim):
    if not isinstance(claim, tuple) or len(claim) < 2:
        return False
    if claim[0] == "each":
        role = role_named(world.roles, claim[1])
    elif isinstance(claim[1], int) and 0 <= claim[1] < len(world.sessions):
        role = world.role_of(claim[1])
    else:
        role = None
    if role is None:
        return False
    if claim[0] == "hidden":
        return len(claim) == 3 and _terms_fit((claim[2],), role, len(role[2]))
    return claim[0] in ("agrees", "each") and len(claim) == 6 and _pairs_fit(world, role, claim[2:])


def _pairs_fit(world, role, rest):
    """Tell whether what stands behind the second item of agrees or each fits the world and the first role."""
    terms, name, steps, other_terms = rest
    other = role_named(world.roles, name)
    if other is None or not isinstance(steps, int) or not 0 <= steps <= len(other[2]):
        return False
    if not isinstance(terms, tuple) or not isinstance(other_terms, tuple) or len(terms) != len(other_terms):
        return False
    return _terms_fit(terms, role, len(role[2])) and _terms_fit(other_terms, other, steps)


def _terms_fit(terms, role, many):
    """Tell whether values of any form are terms for a claim about a role whose first steps are done."""
    _, capitals, steps = role
    if not all([is_role_term(term, capitals) and is_small(term) for term in terms]):
        return False
    # The order in both is free, and place_term puts all of them in one order.
    known = parts_of_row([place_term(term, (), (), 0) for _, term in steps])
    taken = parts_of_row([place_term(term, (), (), 0) for word, term in steps[:many] if word == "take"])
    names = [host for _, term in steps for host in hosts_in(term)]
    for part in parts_of_row([place_term(term, (), (), 0) for term in terms]):
        if part[0] in ("mark", "own", "both") and part not in known:
            return False
        if part[0] == "var" and part not in taken:
            return False
    return all([host in names for term in terms for host in hosts_in(term) if is_name(host)])


def broken(world, claim, run):
    """Tell whether a run breaks a claim."""
    done, bindings, row = replay(world, run)
    if claim[0] == "hidden":
        term = met_term(world, claim, done, bindings)
        return term is not None and reachable(world.good, row, term)
    return disagrees(world, claim, done, bindings)


def crowd(world, claim, run):
    """Return the least set of ended sessions that has too few partners, for a claim of the kind each, or None."""
    done, bindings, _ = replay(world, run)
    if claim[0] != "each":
        return None
    return _least_crowd(world, claim, done, bindings)


def leak(world, claim, run):
    """Return the least recipe of the term of a broken hidden claim, or None."""
    done, bindings, row = replay(world, run)
    term = met_term(world, claim, done, bindings) if claim[0] == "hidden" else None
    return None if term is None else recipe_for(world.good, row, term)


def met_term(world, claim, done, bindings):
    """Return the term of a hidden claim with the bindings, or None if a variable of it is not met."""
    session = claim[1]
    term = term_in_session(world, session, claim[2])
    return apply_bindings(bindings, term) if all_met(world, session, done, term) else None


def term_in_session(world, session, term):
    """Return what a role term of a claim stands for in a session."""
    return place_term(term, world.role_of(session)[1], world.sessions[session][1], session)


def all_met(world, session, done, term):
    """Tell whether each variable of a term occurs in a take step of the session that is done."""
    steps = world.steps_of(session)[:done[session]]
    taken = [variable for word, pattern in steps if word == "take" for variable in variables(pattern)]
    return all([variable in taken for variable in variables(term)])


def disagrees(world, claim, done, bindings):
    """Tell whether a claim of the kind agrees or each is broken after some steps with some bindings."""
    if claim[0] == "each":
        return _least_crowd(world, claim, done, bindings) is not None
    return _has_ended(world, claim[1], done) and len(_partners(world, claim, claim[1], done, bindings)) == 0


def _has_ended(world, session, done):
    return done[session] == len(world.steps_of(session))


def _partners(world, claim, session, done, bindings):
    """List the partners of an ended session."""
    terms, name, steps, other_terms = claim[2:]
    wanted = _bound_terms(world, session, terms, bindings)
    found = []
    for other in sessions_of(world, name):
        if other != session and done[other] >= steps:
            if _bound_terms(world, other, other_terms, bindings) == wanted:
                found.append(other)
    return found


def sessions_of(world, name):
    """List the sessions of the role with a name."""
    return [at for at, session in enumerate(world.sessions) if session[0] == name]


def _bound_terms(world, session, terms, bindings):
    return [apply_bindings(bindings, term_in_session(world, session, term)) for term in terms]


def _least_crowd(world, claim, done, bindings):
    """Return the least set of ended sessions with fewer partners than sessions, as a tuple, or None."""
    ended = [session for session in sessions_of(world, claim[1]) if _has_ended(world, session, done)]
    partners = {session: _partners(world, claim, session, done, bindings) for session in ended}
    for many in range(1, len(ended) + 1):
        for group in combinations(ended, many):
            if len(set([other for session in group for other in partners[session]])) < many:
                return group
    return None
