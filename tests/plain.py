"""Plain workings-out of DOC.md's promises and texts to try them on; nothing of the package is used here."""

import random

SIGNS = "\n" + "".join(chr(number) for number in range(32, 127) if number != 37)


def plain_weight(signs):
    """[3] as one sum: 7 times a power of 131, and each sign's number times its own power of 131."""
    count = len(signs)
    total = 7 * 131 ** count
    for at, sign in enumerate(signs):
        total += ord(sign) * 131 ** (count - 1 - at)
    return total % 65521


def plain_cuts(text, width, reach):
    """[4] place by place, each held against all the others within reach."""
    weights = {
        place: plain_weight(text[place - width:place]) for place in range(len(text) + 1) if place >= width
    }
    found = []
    for place in range(len(text) + 1):
        if width + reach <= place <= len(text) - reach:
            others = [other for other in range(place - reach, place + reach + 1) if other != place]
            if all(weights[place] < weights[other] for other in others):
                found.append(place)
    return found


def plain_pieces(text, width, reach):
    """[4]: what lies between the beginning, the cuts and the end."""
    if text == "":
        return []
    told = []
    start = 0
    for end in plain_cuts(text, width, reach) + [len(text)]:
        told.append(text[start:end])
        start = end
    return told


def some_text(seed, count, signs=SIGNS):
    """A text of count signs; the same seed makes the same text."""
    source = random.Random(seed)
    return "".join(signs[source.randrange(len(signs))] for _ in range(count))


def texts_over(signs, longest):
    """Every text over the signs that has up to longest signs."""
    row = [""]
    told = [""]
    for _ in range(longest):
        row = [text + sign for text in row for sign in signs]
        told.extend(row)
    return told
