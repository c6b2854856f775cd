"""A ward: a world and claims that are edited, and the last verdict on each claim."""

from muffline.claims import broken, check_claim
from muffline.errors import BadClaim, BadMove, TooLarge, UnknownName
from muffline.judge import MOST_CASES, check, judge
from muffline.worlds import World, role_with_step


class Ward:
    """A world with claims; each edit makes a new world or new claims and can be taken back."""

    def __init__(self, world, claims, limit=MOST_CASES):
        _check_claims(world, claims)
        self._world = world
        self._claims = claims
        self._limit = limit
        # For each claim the last verdict as a pair (kind, evidence), or None; and what was there before each edit.
        self._verdicts = (None,) * len(claims)
        self._earlier = []

    @property
    def world(self):
        """The present world."""
        return self._world

    @property
    def claims(self):
        """The present claims."""
        return self._claims

    def __len__(self):
        return len(self._claims)

    def verdict(self, number):
        """Return (kind, evidence, origin) for a claim: the last verdict if it is still good, else judge's."""
        if not 0 <= number < len(self._claims):
            raise UnknownName()
        claim = self._claims[number]
        last = self._verdicts[number]
        if last is not None and _is_good(self._world, claim, last):
            return (*last, "kept")
        found = judge(self._world, claim, limit=self._limit)
        self._verdicts = _with_item(self._verdicts, number, found)
        return (*found, "judged")

    def add_role(self, role):
        """Add a role behind the others."""
        self._change_world((*self._world.roles, role), self._world.sessions, self._world.good)

    def drop_role(self, name):
        """Drop a role, which no session may use."""
        at = self._place_of(name)
        self._change_world(_without_item(self._world.roles, at), self._world.sessions, self._world.good)

    def change_step(self, role, step, term):
        """Replace the term of a step; it stays a send or a take."""
        at = self._place_of(role)
        changed = self._world.roles[at]
        if not 0 <= step < len(changed[2]):
            raise UnknownName()
        self._change_role(at, role_with_step(changed, step, term))

    def add_step(self, role, at, step):
        """Insert a step before a step, or at the end."""
        place = self._place_of(role)
        name, parameters, steps = self._world.roles[place]
        if not 0 <= at <= len(steps):
            raise UnknownName()
        self._change_role(place, (name, parameters, (*steps[:at], step, *steps[at:])))

    def drop_step(self, role, at):
        """Drop a step of a role."""
        place = self._place_of(role)
        name, parameters, steps = self._world.roles[place]
        if not 0 <= at < len(steps):
            raise UnknownName()
        self._change_role(place, (name, parameters, _without_item(steps, at)))

    def add_session(self, session):
        """Add a session behind the others."""
        self._change_world(self._world.roles, (*self._world.sessions, session), self._world.good)

    def drop_session(self):
        """Drop the last session."""
        if len(self._world.sessions) == 0:
            raise UnknownName()
        self._change_world(self._world.roles, self._world.sessions[:-1], self._world.good)

    def set_good(self, good):
        """Replace the good hosts."""
        self._change_world(self._world.roles, self._world.sessions, good)

    def add_claim(self, claim):
        """Add a claim behind the others."""
        self._change(self._world, (*self._claims, claim), (*self._verdicts, None))

    def drop_claim(self, number):
        """Drop a claim; the later ones move down by one, with their verdicts."""
        if not 0 <= number < len(self._claims):
            raise UnknownName()
        self._change(self._world, _without_item(self._claims, number), _without_item(self._verdicts, number))

    def undo(self):
        """Take back the last edit that is not undone, with the last verdicts as they were before it."""
        if len(self._earlier) == 0:
            raise UnknownName()
        self._world, self._claims, self._verdicts = self._earlier.pop()

    def _place_of(self, name):
        """Return the place of the role with a name."""
        for at, role in enumerate(self._world.roles):
            if role[0] == name:
                return at
        raise UnknownName()

    def _change_role(self, at, role):
        self._change_world(_with_item(self._world.roles, at, role), self._world.sessions, self._world.good)

    def _change_world(self, roles, sessions, good):
        self._change(World(roles, sessions, good), self._claims, self._verdicts)

    def _change(self, world, claims, verdicts):
        """Do an edit, if the claims fit the world."""
        _check_claims(world, claims)
        self._earlier.append((self._world, self._claims, self._verdicts))
        self._world = world
        self._claims = claims
        self._verdicts = verdicts


def _check_claims(world, claims):
    """Raise BadClaim if a value of any form is no tuple of claims that fit a world."""
    if not isinstance(claims, tuple):
        raise BadClaim()
    for claim in claims:
        check_claim(world, claim)


def _is_good(world, claim, verdict):
    """Tell whether a verdict holds for a world, which may be another one than that it was made for."""
    kind, evidence = verdict
    try:
        if kind == "run":
            return broken(world, claim, evidence)
        return check(world, claim, evidence)
    except (BadMove, TooLarge):
        return False


def _with_item(items, at, item):
    """Return a tuple with one item replaced."""
    return (*items[:at], item, *items[at + 1:])


def _without_item(items, at):
    """Return a tuple without one item."""
    return (*items[:at], *items[at + 1:])
