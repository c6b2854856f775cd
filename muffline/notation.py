"""Texts of terms, role terms and recipes: writing and reading them.

A text is read from the left to the right, and each function of reading raises BadText
at the first character that cannot continue any written form. At the end of the text
this is the length of the text.
"""

from muffline.errors import BadText
from muffline.forms import GREATEST_NUMBERS, LONGEST_NAME, PLACES
from muffline.terms import key_of

MOST_LEVELS = 30


def write_term(term):
    """Return the written form of a term, a role term or a recipe."""
    return key_of(term)


def read_term(text):
    """Return the term whose written form is the whole text."""
    return _read_whole(text, "term")


def read_role_term(text):
    """Return the role term whose written form is the whole text."""
    return _read_whole(text, "role term")


def read_recipe(text):
    """Return the recipe whose written form is the whole text."""
    return _read_whole(text, "recipe")


def read_role_terms(text):
    """Return the role terms whose written forms, with one space between them, are the whole text."""
    found = []
    at = 0
    while at < len(text):
        if found:
            at = _pass_sign(text, at, " ")
        term, at = _read_form(text, at, 1, "role term")
        found.append(term)
    return tuple(found)


def _read_whole(text, language):
    value, end = _read_form(text, 0, 1, language)
    if end < len(text):
        raise BadText(end)
    return value


def _read_form(text, at, level, language):
    """Return the form of the language that begins at an index, and the index behind it."""
    if level > MOST_LEVELS:
        raise BadText(at)
    at = _pass_sign(text, at, "(")
    kind, at = _read_kind(text, at, language)
    items = [kind]
    for place in PLACES[(language, kind)]:
        at = _pass_sign(text, at, " ")
        item, at = _read_item(text, at, level, place, items[-1])
        items.append(item)
    return tuple(items), _pass_sign(text, at, ")")


def _pass_sign(text, at, sign):
    """Return the index behind a sign that must stand at an index."""
    if text[at:at + 1] != sign:
        raise BadText(at)
    return at + 1


def _read_kind(text, at, language):
    end = at
    while end < len(text) and _begins_kind(text[at:end + 1], language):
        end += 1
    if (language, text[at:end]) not in PLACES:
        raise BadText(end)
    return text[at:end], end


def _begins_kind(word, language):
    return any([owner == language and kind.startswith(word) for owner, kind in PLACES])


def _read_item(text, at, level, place, before):
    """Return the item that stands in a place of a form, and the index behind it."""
    if place in GREATEST_NUMBERS:
        return _read_number(text, at, GREATEST_NUMBERS[place])
    if place == "name":
        return _read_letters(text, at, "a", "z")
    if place == "later":
        return _read_later(text, at, before)
    if place == "host":
        return _read_host(text, at)
    return _read_form(text, at, level + 1, place)


def _read_number(text, at, greatest):
    """Read a number without leading zeros; the greatest consists of nines alone."""
    most = at + len(str(greatest))
    end = at
    while end < most and "0" <= text[end:end + 1] <= "9" and text[at:end] != "0":
        end += 1
    if end == at:
        raise BadText(at)
    return int(text[at:end]), end


def _read_letters(text, at, least, greatest):
    """Read as many letters as a name may have, each from the least to the greatest."""
    end = at
    while end < at + LONGEST_NAME and least <= text[end:end + 1] <= greatest:
        end += 1
    if end == at:
        raise BadText(at)
    return text[at:end], end


def _read_host(text, at):
    if "A" <= text[at:at + 1] <= "Z":
        return _read_letters(text, at, "A", "Z")
    return _read_letters(text, at, "a", "z")


def _read_later(text, at, before):
    """Read a name that is not less than the name before it."""
    name, end = _read_letters(text, at, "a", "z")
    for many in range(1, len(name) + 1):
        greatest = name[:many] + "z" * (LONGEST_NAME - many)
        if greatest < before:
            raise BadText(at + many - 1)
    if name < before:
        raise BadText(end)
    return name, end
