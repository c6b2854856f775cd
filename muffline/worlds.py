"""Worlds: roles, sessions that play them, and good hosts."""

from muffline.errors import BadRole, BadWorld
from muffline.forms import is_name
from muffline.roles import fault_of, place_term

MOST_ROLES = 4

MOST_SESSIONS = 4

MOST_STEPS_OF_ALL = 12


class World:
    """A world, which never changes."""

    def __init__(self, roles, sessions, good):
        _check_roles(roles)
        if not _sessions_fit(roles, sessions) or not _are_good(good):
            raise BadWorld()
        self.roles = roles
        self.sessions = sessions
        self.good = good
        self._steps = tuple([_placed_steps(roles, sessions, at) for at in range(len(sessions))])

    def steps_of(self, session):
        """Return the step terms of a session, as pairs of send or take and a term."""
        return self._steps[session]

    def role_of(self, session):
        """Return the role of a session, as a triple."""
        return role_named(self.roles, self.sessions[session][0])

    def total_steps(self):
        """Return the number of steps of all sessions together."""
        return _total_steps(self.roles, self.sessions)


def _check_roles(roles):
    if not isinstance(roles, tuple):
        raise BadWorld()
    for at, role in enumerate(roles):
        fault = fault_of(role)
        if fault is not None:
            raise BadRole(fault, at)


def _sessions_fit(roles, sessions):
    """Tell whether sessions, a value of any form, go with sound roles and are not too many."""
    if not isinstance(sessions, tuple) or len(sessions) > MOST_SESSIONS or len(roles) > MOST_ROLES:
        return False
    if len(set([role[0] for role in roles])) < len(roles):
        return False
    if not all([_session_fits(roles, session) for session in sessions]):
        return False
    return _total_steps(roles, sessions) <= MOST_STEPS_OF_ALL


def _session_fits(roles, session):
    if not isinstance(session, tuple) or len(session) != 2:
        return False
    name, hosts = session
    role = role_named(roles, name)
    if role is None or not isinstance(hosts, tuple) or len(hosts) != len(role[1]):
        return False
    return all([is_name(host) for host in hosts])


def _are_good(good):
    """Tell whether a value of any form is a strictly ascending tuple of names."""
    if not isinstance(good, tuple) or not all([is_name(name) for name in good]):
        return False
    return all([first < second for first, second in zip(good, good[1:])])


def role_named(roles, name):
    """Return the role with a name, or None; the name may be a value of any form."""
    for role in roles:
        if role[0] == name:
            return role
    return None


def role_with_step(role, at, term):
    """Return a role with the term of a step replaced; it stays a send or a take."""
    name, parameters, steps = role
    return (name, parameters, (*steps[:at], (steps[at][0], term), *steps[at + 1:]))


def _total_steps(roles, sessions):
    return sum([len(role_named(roles, name)[2]) for name, _ in sessions])


def _placed_steps(roles, sessions, at):
    name, hosts = sessions[at]
    _, capitals, steps = role_named(roles, name)
    return tuple([(word, place_term(term, capitals, hosts, at)) for word, term in steps])
