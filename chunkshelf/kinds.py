"""What is a number, a text, a name, a width and a reach."""

MOST_LETTERS = 12
MOST_WIDTH = 8
MOST_REACH = 40
# The sign that texts do without: told by its number, as no string of the program may hold it.
PERCENT = 37


def is_number(thing):
    """Whether a thing is a whole number; True and False are none."""
    return isinstance(thing, int) and not isinstance(thing, bool)


def is_width(thing):
    """Whether a thing is a width."""
    return is_number(thing) and 1 <= thing <= MOST_WIDTH


def is_reach(thing):
    """Whether a thing is a reach."""
    return is_number(thing) and 1 <= thing <= MOST_REACH


def is_text(thing):
    """Whether a thing is a text."""
    return isinstance(thing, str) and all(_is_sign(sign) for sign in thing)


def is_name(thing):
    """Whether a thing is a name."""
    if not isinstance(thing, str) or not 1 <= len(thing) <= MOST_LETTERS:
        return False
    return all("a" <= letter <= "z" for letter in thing)


def _is_sign(sign):
    """Whether a sign may stand in a text."""
    return sign == "\n" or (" " <= sign <= "~" and ord(sign) != PERCENT)
