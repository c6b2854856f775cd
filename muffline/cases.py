"""Cases: each stands for many runs with one schedule, and unfolds into the cases under it."""

from muffline.claims import all_met, disagrees, met_term, sessions_of, term_in_session
from muffline.errors import TooLarge
from muffline.patterns import apply_bindings, apply_to_row, chain_bindings, unify_numbers
from muffline.recipes import reachable
from muffline.runs import may_exchange
from muffline.terms import Stock, is_too_large, key_of, parts_of_row


def start_case():
    """Return the case from which all others are reached."""
    return ("state", (), (), (), ())


def next_demand(demands):
    """Return the place of the first demand that is not settled, or -1."""
    for at, (_, term) in enumerate(demands):
        if term[0] != "var":
            return at
    return -1


def is_settled(case):
    """Tell whether the terms of all demands of a case are variables."""
    return next_demand(case[3]) == -1


def unfold(world, claim, case):
    """Return the next cases of a case, or None if it is broken."""
    stage = case[0]
    if stage == "state":
        found = _after_state(world, claim, case) if is_settled(case) else None
    elif not is_settled(case):
        found = _after_demand(world.good, case)
    else:
        found = None if stage == "goal" else [("state", *case[1:])]
    if found is None:
        return None
    for after in found:
        if _is_case_too_large(world, claim, after):
            raise TooLarge()
    return tuple(found)


def _after_state(world, claim, case):
    """List the next cases of a settled state, or return None if it is broken."""
    _, schedule, row, demands, bindings = case
    done = _done_by(world, schedule)
    found = []
    if claim[0] == "hidden":
        term = met_term(world, claim, done, bindings)
        if term is not None:
            found.append(("goal", schedule, row, (*demands, (len(row), term)), bindings))
    elif disagrees(world, claim, done, bindings):
        return None
    for session in range(len(world.sessions)):
        if _may_move_next(world, schedule, done, session):
            found.append(_after_move(case, session, world.steps_of(session)[done[session]]))
    return found


def _done_by(world, schedule):
    """List for each session how many steps a schedule gives it."""
    return [schedule.count(session) for session in range(len(world.sessions))]


def _may_move_next(world, schedule, done, session):
    """Tell whether a session has a step left that cannot be exchanged with the last one of the schedule."""
    steps = world.steps_of(session)
    if done[session] == len(steps):
        return False
    if len(schedule) == 0:
        return True
    last = schedule[-1]
    last_word, _ = world.steps_of(last)[done[last] - 1]
    return not may_exchange(last, last_word == "send", session, steps[done[session]][0] == "send")


def _after_move(case, session, step):
    """Return the case that comes after a settled state if a session does its next step."""
    _, schedule, row, demands, bindings = case
    word, term = step
    term = apply_bindings(bindings, term)
    schedule = (*schedule, session)
    if word == "send":
        return ("state", schedule, (*row, term), demands, bindings)
    return ("move", schedule, row, (*demands, (len(row), term)), bindings)


def _after_demand(good, case):
    """List the next cases of a move or a goal that is not settled."""
    stage, schedule, row, demands, bindings = case
    at = next_demand(demands)
    many, term = demands[at]
    letters = row[:many]
    known = letters + tuple([variable for _, variable in demands[:at]])
    if reachable(good, known, term):
        return [(stage, schedule, row, demands[:at] + demands[at + 1:], bindings)]
    found = []
    inside = _terms_to_compose(term)
    if len(inside) > 0:
        fresh = tuple([(many, part) for part in inside])
        found.append((stage, schedule, row, demands[:at] + fresh + demands[at + 1:], bindings))
    for unifier in _unifiers(letters, term):
        found.append(_bound_case(case, unifier))
    return found


def _terms_to_compose(term):
    """List the terms from which a composed term is put together; none for an atom."""
    if term[0] in ("pair", "lock"):
        return [term[1], term[2]]
    if term[0] in ("digest", "box"):
        return [term[1]]
    if term[0] == "stamp":
        return [term[1], ("own", term[2])]
    return []


def _unifiers(letters, term):
    """List the distinct binding rows by which the term, or a part of a key, becomes a part of the letters."""
    stock = Stock()
    goal = stock.number_of(term)
    found_parts = parts_of_row(letters)
    pieces = [stock.number_of(part) for part in found_parts]
    lock_keys = parts_of_row([lock[2] for lock in found_parts if lock[0] == "lock"])
    found = {}
    for first in [goal, *[stock.number_of(part) for part in lock_keys]]:
        for second in pieces:
            if first != second and _may_unify(stock, first, second):
                unifier = unify_numbers(stock, [(first, second)])
                if unifier is not None:
                    found.setdefault(_written(unifier), unifier)
    return list(found.values())


def _may_unify(stock, first, second):
    """Tell whether two terms are composed and of one kind; other distinct terms that are no variables never unify."""
    return len(stock.inner[first]) > 0 and stock.terms[first][0] == stock.terms[second][0]


def _written(bindings):
    """Return a text for a binding row, which may be nested too deep for a key itself."""
    return " ".join([key_of(term) for pair in bindings for term in pair])


def _bound_case(case, unifier):
    """Return a case with a unifier applied to it."""
    stage, schedule, row, demands, bindings = case
    bound = tuple([(many, apply_bindings(unifier, term)) for many, term in demands])
    return (stage, schedule, apply_to_row(unifier, row), bound, chain_bindings(bindings, unifier))


def _is_case_too_large(world, claim, case):
    """Tell whether a term of a case, or one that it gives to a step or to the claim, is too large."""
    _, schedule, row, demands, bindings = case
    done = _done_by(world, schedule)
    terms = [*row, *[term for _, term in demands], *[term for _, term in bindings]]
    for session, many in enumerate(done):
        terms.extend([apply_bindings(bindings, term) for _, term in world.steps_of(session)[:many]])
    for session, term in _claim_terms(world, claim):
        if all_met(world, session, done, term):
            terms.append(apply_bindings(bindings, term))
    return any([is_too_large(term) for term in terms])


def _claim_terms(world, claim):
    """List the terms of a claim with each session that they may speak of: (session, term of the session)."""
    if claim[0] == "hidden":
        spoken = [(claim[1], claim[2])]
    else:
        _, who, terms, name, _, other_terms = claim
        speakers = [who] if claim[0] == "agrees" else sessions_of(world, who)
        spoken = [(session, term) for session in speakers for term in terms]
        spoken.extend([(session, term) for session in sessions_of(world, name) for term in other_terms])
    return [(session, term_in_session(world, session, term)) for session, term in spoken]
