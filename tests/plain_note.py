"""A plain working-out of which texts [13] reads; nothing of the package is used here."""

import re

from tests.plain import SIGNS
from tests.plain_shelf import cut_up

NUMBER = "(?:0|[1-9][0-9]{0,11})"
NAME = "[a-z]{1,12}"
NOTE = re.compile(
    f"shelf ({NUMBER}) ({NUMBER}) ({NUMBER})\n"
    f"((?:piece {NUMBER} (?:[^\n\\\\]|\\\\n|\\\\\\\\)+\n)*)"
    f"((?:work {NAME} {NUMBER}\n)*)"
    f"((?:version {NAME} {NUMBER}(?: {NUMBER})*\n)*)"
)


def rows_of(part):
    return part.split("\n")[:-1]


def rising(things):
    return all(one < two for one, two in zip(things, things[1:]))


def sign_for(match):
    return {"\\n": "\n", "\\\\": "\\"}[match.group()]


def is_note(text):
    """Whether read tells a shelf for a text."""
    found = NOTE.fullmatch(text)
    if found is None:
        return False
    width, reach, greatest = (int(found.group(at)) for at in (1, 2, 3))
    told = [row.split(" ", 2)[1:] for row in rows_of(found.group(4))]
    pieces = {int(number): re.sub("\\\\.", sign_for, part) for number, part in told}
    works = [(row.split(" ")[1], int(row.split(" ")[2])) for row in rows_of(found.group(5))]
    versions = [row.split(" ")[1:] for row in rows_of(found.group(6))]
    versions = [(words[0], int(words[1]), tuple(int(word) for word in words[2:])) for words in versions]
    return (
        1 <= width <= 8 and 1 <= reach <= 40
        and rising([int(number) for number, _ in told]) and all(1 <= number <= greatest for number in pieces)
        and all(sign in SIGNS for part in pieces.values() for sign in part)
        and len(set(pieces.values())) == len(told)
        and rising([name for name, _ in works]) and all(most >= 1 for _, most in works)
        and rising([(name, number) for name, number, _ in versions]) and len(versions) <= 100
        and all(1 <= number <= dict(works).get(name, 0) for name, number, _ in versions)
        and {piece for _, _, row in versions for piece in row} == set(pieces)
        and all(is_row(row, pieces, width, reach) for _, _, row in versions)
    )


def is_row(row, pieces, width, reach):
    text = "".join(pieces[number] for number in row)
    return len(text) <= 3000 and cut_up(text, width, reach) == tuple(pieces[number] for number in row)
