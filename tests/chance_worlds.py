"""Small worlds and claims that are put together by chance."""

from muffline.claims import check_claim
from muffline.errors import BadClaim, BadRole
from muffline.roles import check_role
from muffline.worlds import World


def role_term(chance, depth, capitals=("A", "B")):
    if depth == 0 or chance.random() < 0.25:
        first, other = capitals[0], chance.choice(capitals)
        return chance.choice((
            ("mark", "n"), ("mark", "n"), ("mark", "k"), ("var", "x"), ("var", "x"), ("var", "y"), ("host", other),
            ("both", first, other), ("word", "hi"), ("own", first)))
    kind = chance.choice(("pair", "lock", "lock", "lock", "digest", "box", "stamp"))
    inner = [role_term(chance, depth - 1, capitals) for _ in range(2 if kind in ("pair", "lock") else 1)]
    return (kind, *inner, *([chance.choice(capitals)] if kind in ("box", "stamp") else []))


def role(chance, name, most, depth):
    """A sound role with up to so many steps."""
    capitals = ("A", "B") if chance.random() < 0.8 else ("A",)
    steps = ()
    for _ in range(chance.randint(1, most)):
        for _ in range(200):
            step = (chance.choice(("send", "take")), role_term(chance, chance.randint(0, depth), capitals))
            try:
                check_role((name, capitals, steps + (step,)))
            except BadRole:
                continue
            steps += (step,)
            break
    return (name, capitals, steps)


def world(chance, most=3, depth=3, sessions=3, names=("r", "t"), hosts=("ann", "ann", "bob", "bob", "mal")):
    roles = tuple(role(chance, name, most, depth) for name in names[:chance.randint(1, len(names))])
    found = []
    for _ in range(chance.randint(1, sessions)):
        name, capitals, _ = chance.choice(roles)
        found.append((name, tuple(chance.choice(hosts) for _ in capitals)))
    return World(roles, tuple(found), ("ann", "bob"))


def claim(chance, where):
    """A claim that fits the world, or None if none was found."""
    for _ in range(200):
        found = any_claim(chance, where)
        try:
            check_claim(where, found)
        except BadClaim:
            continue
        return found
    return None


def any_claim(chance, where):
    kind = chance.choice(("hidden", "agrees", "each"))
    session = chance.randrange(len(where.sessions))
    if kind == "hidden":
        return (kind, session, role_term(chance, chance.randint(0, 1)))
    many = chance.randint(0, 2)
    terms, others = [tuple(role_term(chance, 0) for _ in range(many)) for _ in range(2)]
    other = chance.choice(where.roles)
    first = session if kind == "agrees" else chance.choice(where.roles)[0]
    return (kind, first, terms, other[0], chance.randint(0, len(other[2])), others)
