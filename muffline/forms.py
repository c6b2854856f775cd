"""The forms of terms, role terms and recipes, place by place.

A form is found by its language and its kind. Each of its places is one of the words
name, later (a name that is not less than the name ahead of it), host (a name or a
capital), session and number, or it is the language of what stands inside.

Forms may be nested too deep for recursion, so the functions keep stacks of their own.
"""

LONGEST_NAME = 8

LETTERS = "abcdefghijklmnopqrstuvwxyz"

GREATEST_NUMBERS = {"session": 9, "number": 999999}

LANGUAGES = ("atom", "term", "role term", "recipe")

PLACES = {
    ("atom", "host"): ("name",),
    ("atom", "word"): ("name",),
    ("atom", "road"): ("number",),
    ("atom", "own"): ("name",),
    ("atom", "both"): ("name", "later"),
    ("atom", "mark"): ("session", "name"),
    ("term", "host"): ("name",),
    ("term", "word"): ("name",),
    ("term", "road"): ("number",),
    ("term", "own"): ("name",),
    ("term", "both"): ("name", "later"),
    ("term", "mark"): ("session", "name"),
    ("term", "var"): ("session", "name"),
    ("term", "pair"): ("term", "term"),
    ("term", "lock"): ("term", "term"),
    ("term", "digest"): ("term",),
    ("term", "box"): ("term", "name"),
    ("term", "stamp"): ("term", "name"),
    ("role term", "host"): ("host",),
    ("role term", "word"): ("name",),
    ("role term", "own"): ("host",),
    ("role term", "both"): ("host", "host"),
    ("role term", "mark"): ("name",),
    ("role term", "var"): ("name",),
    ("role term", "pair"): ("role term", "role term"),
    ("role term", "lock"): ("role term", "role term"),
    ("role term", "digest"): ("role term",),
    ("role term", "box"): ("role term", "host"),
    ("role term", "stamp"): ("role term", "host"),
    ("recipe", "letter"): ("number",),
    ("recipe", "free"): ("atom",),
    ("recipe", "pair"): ("recipe", "recipe"),
    ("recipe", "lock"): ("recipe", "recipe"),
    ("recipe", "digest"): ("recipe",),
    ("recipe", "box"): ("recipe", "name"),
    ("recipe", "stamp"): ("recipe", "recipe", "name"),
    ("recipe", "left"): ("recipe",),
    ("recipe", "right"): ("recipe",),
    ("recipe", "unstamp"): ("recipe", "name"),
    ("recipe", "unlock"): ("recipe", "recipe"),
    ("recipe", "unbox"): ("recipe", "recipe", "name"),
}


def is_name(value):
    """Tell whether a value of any form is a name."""
    return _is_word(value, "a", "z")


def is_capital(value):
    """Tell whether a value of any form is a capital."""
    return _is_word(value, "A", "Z")


def _is_word(value, least, greatest):
    if not isinstance(value, str) or not 1 <= len(value) <= LONGEST_NAME:
        return False
    return all([least <= sign <= greatest for sign in value])


def is_number(value, greatest):
    """Tell whether a value of any form is an integer from 0 to the greatest."""
    return isinstance(value, int) and 0 <= value <= greatest


def forms_within(value, language, capitals):
    """List a form of a language and the forms inside it from left to right, as often as they occur.

    Capitals stand in it only if they are among the given ones. Return None if the value,
    of any form, is no such form.
    """
    found = []
    pending = [(value, language)]
    while pending:
        node, owner = pending.pop()
        places = _places_of(node, owner)
        if places is None:
            return None
        found.append(node)
        inner = []
        for at, place in enumerate(places, start=1):
            if place in LANGUAGES:
                inner.append((node[at], place))
            elif not _fits(node[at], place, node[at - 1], capitals):
                return None
        inner.reverse()
        pending.extend(inner)
    return found


def _places_of(value, language):
    """Return the places of the one form of the language that the value can have, or None."""
    if not isinstance(value, tuple) or len(value) == 0 or not isinstance(value[0], str):
        return None
    places = PLACES.get((language, value[0]))
    if places is None or len(value) != len(places) + 1:
        return None
    return places


def _fits(item, place, before, capitals):
    """Tell whether an item that is no form fits its place behind the item before it."""
    if place in GREATEST_NUMBERS:
        return is_number(item, GREATEST_NUMBERS[place])
    if place == "later":
        return is_name(item) and before <= item
    if place == "host" and is_capital(item):
        return item in capitals
    return is_name(item)
