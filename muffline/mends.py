"""Mends: edits of a world's roles, and the least set of them with which the world keeps a claim."""

from itertools import combinations

from muffline.claims import check_claim
from muffline.errors import BadClaim, BadEdit, BadRole
from muffline.judge import MOST_CASES, judge
from muffline.worlds import World, role_named, role_with_step


def edited(world, edits):
    """Return the world with the terms of some steps replaced, each as an edit (name of a role, step, term) says."""
    _check_edits(world, edits)
    return World(_edited_roles(world.roles, edits), world.sessions, world.good)


def _check_edits(world, edits):
    """Raise BadEdit if an edit names no step, or two name the same step."""
    places = []
    for name, step, _ in edits:
        role = role_named(world.roles, name)
        if role is None or not 0 <= step < len(role[2]) or (name, step) in places:
            raise BadEdit()
        places.append((name, step))


def _edited_roles(roles, edits):
    """Return roles with the terms of steps that exist replaced."""
    for name, step, term in edits:
        roles = tuple([role_with_step(role, step, term) if role[0] == name else role for role in roles])
    return roles


def mend(world, claim, edits, *, limit=MOST_CASES):
    """Return (numbers, paper, trials) of the first set of edits with which the claim is kept.

    The numbers and the paper are None if there is no such set. The trials are pairs
    (numbers, run that breaks the claim) of the sets before it, with None for unfit sets.
    """
    _check_edits(world, edits)
    trials = []
    for many in range(len(edits) + 1):
        for numbers in combinations(range(len(edits)), many):
            verdict = _tried(world, claim, [edits[number] for number in numbers], limit)
            if verdict is not None and verdict[0] == "paper":
                return (numbers, verdict[1], tuple(trials))
            trials.append((numbers, None if verdict is None else verdict[1]))
    return (None, None, tuple(trials))


def _tried(world, claim, edits, limit):
    """Return what the judge says of the world with some edits made, or None if the edits do not fit together."""
    try:
        changed = World(_edited_roles(world.roles, edits), world.sessions, world.good)
        check_claim(changed, claim)
    except (BadRole, BadClaim):
        return None
    return judge(changed, claim, limit=limit)
