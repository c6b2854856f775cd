"""The forms of terms, role terms and recipes, place by place.

A form is found by its language and its kind. Each of its places is one of the words
name, later (a name that is not less than the name ahead of it), host (a name or a
capital), session and number, or it is the language of what stands inside.
"""

LONGEST_NAME = 8

GREATEST_NUMBERS = {"session": 9, "number": 999999}

PLACES = {
    ("atom", "host"): ("name",),
    ("atom", "word"): ("name",),
    ("atom", "road"): ("number",),
    ("atom", "own"): ("name",),
    ("atom", "both"): ("name", "later"),
    ("atom", "mark"): ("session", "name"),
    ("term", "host"): ("name",),
    ("term", "word"): ("name",),
    ("term", "road"): ("number",),
    ("term", "own"): ("name",),
    ("term", "both"): ("name", "later"),
    ("term", "mark"): ("session", "name"),
    ("term", "var"): ("session", "name"),
    ("term", "pair"): ("term", "term"),
    ("term", "lock"): ("term", "term"),
    ("term", "digest"): ("term",),
    ("term", "box"): ("term", "name"),
    ("term", "stamp"): ("term", "name"),
    ("role term", "host"): ("host",),
    ("role term", "word"): ("name",),
    ("role term", "own"): ("host",),
    ("role term", "both"): ("host", "host"),
    ("role term", "mark"): ("name",),
    ("role term", "var"): ("name",),
    ("role term", "pair"): ("role term", "role term"),
    ("role term", "lock"): ("role term", "role term"),
    ("role term", "digest"): ("role term",),
    ("role term", "box"): ("role term", "host"),
    ("role term", "stamp"): ("role term", "host"),
    ("recipe", "letter"): ("number",),
    ("recipe", "free"): ("atom",),
    ("recipe", "pair"): ("recipe", "recipe"),
    ("recipe", "lock"): ("recipe", "recipe"),
    ("recipe", "digest"): ("recipe",),
    ("recipe", "box"): ("recipe", "name"),
    ("recipe", "stamp"): ("recipe", "recipe", "name"),
    ("recipe", "left"): ("recipe",),
    ("recipe", "right"): ("recipe",),
    ("recipe", "unstamp"): ("recipe", "name"),
    ("recipe", "unlock"): ("recipe", "recipe"),
    ("recipe", "unbox"): ("recipe", "recipe", "name"),
}


def is_name(value):
    """Tell whether a value of any form is a name."""
    if not isinstance(value, str) or not 1 <= len(value) <= LONGEST_NAME:
        return False
    return all(["a" <= sign <= "z" for sign in value])


def is_number(value, greatest):
    """Tell whether a value of any form is an integer from 0 to the greatest."""
    return isinstance(value, int) and 0 <= value <= greatest
