"""Values: integers, texts and the null, their kinds, and how they become others."""

LEAST = -999999999
GREATEST = 999999999
MOST_DIGITS = 9
MOST_CHARACTERS = 30
KINDS = ("int", "text")
FIRST_CODE = 32
LAST_CODE = 126
# The percent sign is known by its code, because no string of the package may contain it.
PERCENT_CODE = 37


def is_text_code(code):
    """Tell whether the character with this code may stand in a text."""
    return FIRST_CODE <= code and code <= LAST_CODE and code != PERCENT_CODE


def is_text_character(character):
    """Tell whether a character may stand in a text."""
    return is_text_code(ord(character))


def is_text(thing):
    """Tell whether a string is a text."""
    return len(thing) <= MOST_CHARACTERS and all([is_text_character(character) for character in thing])


def is_separator(thing):
    """Tell whether anything is a separator."""
    return isinstance(thing, str) and len(thing) == 1 and is_text_character(thing)


def is_value(thing):
    """Tell whether anything is a value."""
    if thing is None:
        return True
    # True and False are integers to Python, but they are no values.
    if isinstance(thing, bool):
        return False
    if isinstance(thing, int):
        return LEAST <= thing and thing <= GREATEST
    return isinstance(thing, str) and is_text(thing)


def kind_of(value):
    """Return the kind of a value, or "" for the null."""
    if value is None:
        return ""
    if isinstance(value, int):
        return "int"
    return "text"


def fits_kind(thing, kind, nullable):
    """Tell whether anything is a value that fits a column of this kind."""
    if thing is None:
        return nullable
    return is_value(thing) and kind_of(thing) == kind


def number_of(text):
    """Return the integer value that converts to the text, or None if there is none."""
    digits = text.removeprefix("-")
    if not digits.isdecimal() or len(digits) > MOST_DIGITS:
        return None
    number = int(text)
    # Python also reads texts such as "007" and "-0", which no integer converts to.
    if str(number) != text:
        return None
    return number


def convert(value, kind):
    """Return the value converted to the kind."""
    if value is None or kind_of(value) == kind:
        return value
    if kind == "text":
        return str(value)
    return number_of(value)


def plain_value(kind, nullable):
    """Return the plain value of a column of this kind."""
    if nullable:
        return None
    if kind == "int":
        return 0
    return ""


def cut(text, separator):
    """Return the parts of the text before and behind its first separator."""
    before, _, behind = text.partition(separator)
    return (before, behind)


def glue(first, second, separator):
    """Return the two texts joined by the separator, at most as long as a text may be."""
    joined = first + separator + second
    return joined[:MOST_CHARACTERS]
