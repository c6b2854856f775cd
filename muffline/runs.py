"""Runs: doing their moves one after the other, and putting the moves in order."""

from muffline.errors import BadMove, TooLarge
from muffline.patterns import apply_bindings, match_term
from muffline.recipes import cook
from muffline.terms import is_too_large, rebuilt


def replay(world, run):
    """Return the steps done, the bindings and the row of a run; raise BadMove or TooLarge at its first fault."""
    done = [0] * len(world.sessions)
    bindings = ()
    row = ()
    for at, (session, recipe) in enumerate(run):
        if not 0 <= session < len(done) or done[session] == len(world.steps_of(session)):
            raise BadMove(at)
        step = world.steps_of(session)[done[session]]
        letter, bindings = _letter_of(world.good, row, step, recipe, bindings)
        if letter is None:
            raise BadMove(at)
        if is_too_large(letter):
            raise TooLarge()
        if recipe is None:
            row = (*row, letter)
        done[session] += 1
    return tuple(done), bindings, row


def _letter_of(good, row, step, recipe, bindings):
    """Return the letter of a move and the bindings after it; the letter is None if the move is impossible."""
    word, term = step
    if word == "send":
        return (apply_bindings(bindings, term) if recipe is None else None), bindings
    letter = cook(good, row, recipe)
    matched = None if letter is None else match_term(term, letter, bindings)
    if matched is None:
        return None, bindings
    return letter, matched


def schedule_of(run):
    """Return the sessions of the moves of a run."""
    return tuple([session for session, _ in run])


def may_exchange(first, first_sends, second, second_sends):
    """Tell whether neighbouring moves of two sessions, of which some are sends, may be exchanged."""
    return second < first and (second_sends or not first_sends)


def tidy(world, run):
    """Return the run that arises from a run by exchanging neighbouring moves while there are such."""
    replay(world, run)
    order = list(range(len(run)))
    at = 0
    while at + 1 < len(order):
        first, second = order[at], order[at + 1]
        if _may_change_places(run[first], run[second]):
            order[at] = second
            order[at + 1] = first
            at = max(0, at - 1)
        else:
            at += 1
    places = _letter_places(run, order)
    return tuple([(run[move][0], _renumbered(run[move][1], places)) for move in order])


def is_tidy(world, run):
    """Tell whether no two neighbouring moves of a run may be exchanged."""
    replay(world, run)
    return not any([_may_change_places(first, second) for first, second in zip(run, run[1:])])


def _may_change_places(first, second):
    return may_exchange(first[0], first[1] is None, second[0], second[1] is None)


def _letter_places(run, order):
    """Return for each letter of a run its place in the row of the same moves in another order."""
    before = [move for move in range(len(run)) if run[move][1] is None]
    after = [move for move in order if run[move][1] is None]
    return [after.index(move) for move in before]


def _renumbered(recipe, places):
    if recipe is None:
        return None
    return rebuilt(recipe, lambda node: ("letter", places[node[1]]) if node[0] == "letter" else node)
