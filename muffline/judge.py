"""The judge: a run that breaks a claim, or a paper that shows that no run does."""

from muffline.cases import start_case, unfold
from muffline.errors import TooLarge
from muffline.patterns import apply_bindings
from muffline.recipes import recipe_for
from muffline.terms import in_order, variables

MOST_CASES = 20000


def judge(world, claim, *, limit=MOST_CASES):
    """Return ("run", a run that breaks the claim) or ("paper", a paper that shows that there is none)."""
    paper, broken_cases = _walked(world, claim, limit, False)
    if broken_cases:
        return ("run", instance_run(world, broken_cases[0]))
    return ("paper", paper)


def least_break(world, claim, *, limit=MOST_CASES):
    """Return a run that breaks the claim and has the least schedule of all such runs, or None."""
    _, broken_cases = _walked(world, claim, limit, True)
    if len(broken_cases) == 0:
        return None
    return instance_run(world, min(broken_cases, key=lambda case: (len(case[1]), case[1])))


def _walked(world, claim, limit, whole):
    """Unfold the tree depth first, as a whole or up to the first broken case.

    Return the pairs (case, places of the next cases) in the order of unfolding, and the
    broken cases. Nothing stands under a broken case.
    """
    cases = []
    places = []
    broken_cases = []
    # Each case waits with the place of the one above it; the start stands under itself for this.
    pending = [(start_case(), 0)]
    while pending and (whole or len(broken_cases) == 0):
        if len(cases) >= limit:
            raise TooLarge()
        case, above = pending.pop()
        at = len(cases)
        cases.append(case)
        places.append([])
        if at > 0:
            places[above].append(at)
        following = unfold(world, claim, case)
        if following is None:
            broken_cases.append(case)
        else:
            pending.extend([(after, at) for after in reversed(following)])
    return tuple([(case, tuple(numbers)) for case, numbers in zip(cases, places)]), broken_cases


def instance_run(world, case):
    """Return the run of a settled case in which the road's own marks stand for all variables that are left."""
    _, schedule, _, _, bindings = case
    filling = _filling_of(world, schedule, bindings)
    done = [0] * len(world.sessions)
    row = ()
    run = []
    for session in schedule:
        word, term = world.steps_of(session)[done[session]]
        done[session] += 1
        letter = apply_bindings(filling, apply_bindings(bindings, term))
        if word == "send":
            row = (*row, letter)
            run.append((session, None))
        else:
            run.append((session, recipe_for(world.good, row, letter)))
    return tuple(run)


def _filling_of(world, schedule, bindings):
    """Give a road mark to each variable of the done take steps that the bindings do not replace."""
    replaced = [variable for variable, _ in bindings]
    met = {}
    for session in range(len(world.sessions)):
        for word, term in world.steps_of(session)[:schedule.count(session)]:
            if word == "take":
                for variable in variables(term):
                    if variable not in replaced:
                        met[variable] = True
    return tuple([(variable, ("road", at)) for at, variable in enumerate(in_order(tuple(met)))])


def check(world, claim, paper):
    """Tell whether a paper shows that no run breaks a claim; each pair of it is looked at by itself."""
    if len(paper) == 0 or paper[0][0] != start_case():
        return False
    for at, (case, numbers) in enumerate(paper):
        if not _has_schedule(world, case[1]):
            return False
        following = unfold(world, claim, case)
        if not all([at < number < len(paper) for number in numbers]):
            return False
        # A broken case has None here, which no cases are equal to.
        if following != tuple([paper[number][0] for number in numbers]):
            return False
    return True


def _has_schedule(world, schedule):
    """Tell whether all sessions of a schedule exist and have as many steps as it gives them."""
    for session in schedule:
        if not 0 <= session < len(world.sessions) or schedule.count(session) > len(world.steps_of(session)):
            return False
    return True
