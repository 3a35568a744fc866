"""Cutting texts into pieces where their own signs say so."""

WEIGHT_START = 7
WEIGHT_FACTOR = 131
WEIGHT_DIVISOR = 65521


def weight(signs):
    """The weight of some signs."""
    total = WEIGHT_START
    for sign in signs:
        total = (total * WEIGHT_FACTOR + ord(sign)) % WEIGHT_DIVISOR
    return total


def few(count, width, reach):
    """The most pieces of a text that may be new when a stretch is changed for count signs."""
    return (count + 3 * reach + width - 1) // (reach + 1) + 1


def cuts(text, width, reach):
    """The places at which a text is cut, rising."""
    weights = _weights_by_place(text, width)
    return [place for place in range(width + reach, len(text) - reach + 1)
            if _is_lightest(weights, place, reach)]


def pieces(text, width, reach):
    """The pieces of a text between its beginning, its cuts and its end, in order."""
    bounds = [0] + cuts(text, width, reach) + [len(text)]
    # A text of no signs has its beginning and its end at one place: no piece lies between them.
    return [text[start:end] for start, end in zip(bounds, bounds[1:]) if start < end]


def _weights_by_place(text, width):
    """The weight of each place that has one: of the width signs ahead of it."""
    return {place: weight(text[place - width:place]) for place in range(width, len(text) + 1)}


def _is_lightest(weights, place, reach):
    """Whether a place weighs less than each other one within reach."""
    for other in range(place - reach, place + reach + 1):
        if other != place and weights[other] <= weights[place]:
            return False
    return True
