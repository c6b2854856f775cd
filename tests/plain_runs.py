"""What the judge says, found in the plainest way: whole trees, and short runs by trying.

The trees are made by plain_worlds.unfold, without sizes. Runs are tried with letters whose
variables stand for parts of the letters before them and for a few other terms.
"""

import itertools

from tests import plain, plain_worlds

START = ("state", (), (), (), ())

OTHERS = [("road", 0), ("road", 1), ("host", "ann"), ("host", "mal"), ("own", "mal"), ("word", "hi"), ("digest", ("road", 0))]


def tree(world, claim, most=2000):
    """All pairs (case, next cases or None) in the order of judge; nothing stands under a broken case."""
    found = []

    def visit(case):
        after = plain_worlds.unfold(world, claim, case)
        found.append((case, after))
        assert len(found) <= most
        for below in after or ():
            visit(below)

    visit(START)
    return found


def paper_of(cases):
    """The paper of a tree: a case's next cases come later, and each but the first stands under one case."""
    free = list(range(len(cases) - 1, 0, -1))
    pairs = {}

    def visit(at):
        case, after = cases[at]
        numbers = []
        for _ in after:
            numbers.append(free.pop())
            visit(numbers[-1])
        pairs[at] = (case, tuple(numbers))

    visit(0)
    return tuple(pairs[at] for at in range(len(cases)))


def first_broken(cases):
    """The place of the first broken case, or None."""
    return next((at for at, (_, after) in enumerate(cases) if after is None), None)


def filled_letters(world, case):
    """The letters of a settled case, as pairs (session, word, letter), with road marks for its variables."""
    _, schedule, _, _, bindings = case
    steps = [plain_worlds.steps_of(world, session) for session in range(len(world.sessions))]
    moves = [(session, *steps[session][schedule[:at].count(session)]) for at, session in enumerate(schedule)]
    taken = plain.variables(*[term for _, word, term in moves if word == "take"])
    left = sorted([variable for variable in taken if variable not in dict(bindings)], key=plain.rank)
    filling = [(variable, ("road", at)) for at, variable in enumerate(left)]
    return [(session, word, plain.apply(filling, plain.apply(bindings, term))) for session, word, term in moves]


def instance(world, case):
    """The run of a settled case, by trying for the least recipes."""
    row, run = [], []
    for session, word, letter in filled_letters(world, case):
        if word == "send":
            row.append(letter)
            run.append((session, None))
        else:
            run.append((session, plain.least_by_trying(world.good, row, letter)[letter]))
    return tuple(run)


def states_by_trying(world, most, others, cap):
    """Ways that runs of up to most moves can go: (schedule, done, bindings, row), at most cap of them."""
    steps = [plain_worlds.steps_of(world, session) for session in range(len(world.sessions))]
    pending = [((), (0,) * len(steps), {}, ())]
    found = []
    while pending and len(found) < cap:
        state = pending.pop(0)
        found.append(state)
        schedule, done, table, row = state
        for session in range(len(steps) if len(schedule) < most else 0):
            if done[session] < len(steps[session]):
                word, term = steps[session][done[session]]
                after = done[:session] + (done[session] + 1,) + done[session + 1:]
                term = plain.apply(table.items(), term)
                if word == "send":
                    pending.append((schedule + (session,), after, table, row + (term,)))
                else:
                    for more in bindings_by_trying(world.good, row, term, others):
                        pending.append((schedule + (session,), after, {**table, **more}, row))
    return found


def bindings_by_trying(good, row, term, others):
    """Dicts for the variables of a term with which it is reachable from a row."""
    there = plain.opened(good, row)
    pool = [part for part in plain.all_parts([*row, *others]) if plain.can_build(good, there, part)]
    names = plain.variables(term)
    tables = [dict(zip(names, values)) for values in itertools.product(pool, repeat=len(names))]
    return [table for table in tables if plain.can_build(good, there, plain.apply(table.items(), term))]


def breaks(world, claim, state):
    _, done, table, row = state
    if claim[0] != "hidden":
        return plain_worlds.disagrees(world, claim, done, list(table.items()))
    term = plain_worlds.place(world, claim[1], claim[2])
    if not plain_worlds.is_met(world, claim[1], done, term):
        return False
    return plain.reachable(world.good, row, plain.apply(table.items(), term))


def least_schedule_by_trying(world, claim, most=6, others=OTHERS, cap=600):
    """The least schedule of the tried runs that break a claim, or None."""
    schedules = [state[0] for state in states_by_trying(world, most, others, cap) if breaks(world, claim, state)]
    return min(schedules, key=lambda schedule: (len(schedule), schedule), default=None)
