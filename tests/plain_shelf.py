"""Plain workings-out of [6] to [12], over whole texts; nothing of the package is used here."""

import functools
import random

from tests.plain import plain_pieces, some_text

cut_up = functools.lru_cache(maxsize=None)(lambda text, width, reach: tuple(plain_pieces(text, width, reach)))


class PlainStock:
    """[6] over a list of every piece that was ever numbered: its place in the list is its number less 1."""

    def __init__(self):
        self.ever = []

    def need(self, text):
        for number, entry in enumerate(self.ever, 1):
            if entry[0] == text and entry[1] > 0:
                entry[1] += 1
                return number
        self.ever.append([text, 1])
        return len(self.ever)

    def free(self, number):
        self.ever[number - 1][1] -= 1

    def count(self, number):
        return self.ever[number - 1][1] if 1 <= number <= len(self.ever) else 0

    def piece(self, number):
        return self.ever[number - 1][0]

    def numbers(self):
        return [number for number, entry in enumerate(self.ever, 1) if entry[1] > 0]


class PlainShelf:
    """[7] to [10] and [12] over the versions' texts: who needs a piece is looked up anew for each answer."""

    def __init__(self, width, reach):
        self.width = width
        self.reach = reach
        self.texts = {}
        self.told = {}
        self.numbers = {}
        self.greatest = 0

    def parts(self, name, number):
        return cut_up(self.texts[name, number], self.width, self.reach)

    def keep(self, name, text):
        number = self.told.get(name, 0) + 1
        self.told[name] = number
        self.texts[name, number] = text
        for part in self.parts(name, number):
            if part not in self.numbers:
                self.greatest += 1
                self.numbers[part] = self.greatest
        return number

    def drop(self, name, number):
        del self.texts[name, number]
        needed = {part for version in self.texts for part in self.parts(*version)}
        self.numbers = {part: told for part, told in self.numbers.items() if part in needed}

    def change(self, name, number, start, end, text):
        old = self.texts[name, number]
        new = old[:start] + text + old[end:]
        fresh = [part for part in set(cut_up(new, self.width, self.reach)) if part not in self.numbers]
        return self.keep(name, new), len(fresh)

    def text(self, name, number):
        return self.texts[name, number]

    def row(self, name, number):
        return tuple(self.numbers[part] for part in self.parts(name, number))

    def versions(self, name):
        return [number for number in range(1, self.told.get(name, 0) + 1) if (name, number) in self.texts]

    def names(self):
        return sorted(name for name in self.told if self.versions(name))

    def pieces(self):
        return sorted((told, part, len(self.needed(told))) for part, told in self.numbers.items())

    def needed(self, number):
        return [
            (name, version) for name in self.names() for version in self.versions(name)
            if number in self.row(name, version)
        ]

    def signs(self):
        return sum(len(part) for part in self.numbers)

    def altered(self, name, one, other):
        old = self.parts(name, one)
        return sorted({self.numbers[part] for part in self.parts(name, other) if part not in old})

    def note(self):
        rows = [("shelf", self.width, self.reach, self.greatest)]
        for number, text, _ in self.pieces():
            told = "".join({"\\": "\\\\", "\n": "\\n"}.get(sign, sign) for sign in text)
            rows.append(("piece", number, told))
        rows += [("work", name, self.told[name]) for name in sorted(self.told)]
        rows += [
            ("version", name, number) + self.row(name, number)
            for name in self.names() for number in self.versions(name)
        ]
        return "".join(" ".join(str(word) for word in row) + "\n" for row in rows)


def asked(shelf, names=("a", "b", "work", "zzzzzzzzzzzz")):
    """Every answer of a shelf's asking methods, but those about two versions far apart."""
    pieces = shelf.pieces()
    most = max([number for number, _, _ in pieces], default=0)
    versions = [(name, number) for name in shelf.names() for number in shelf.versions(name)]
    return {
        "names": shelf.names(),
        "versions": [shelf.versions(name) for name in names],
        "texts": [shelf.text(name, number) for name, number in versions],
        "rows": [shelf.row(name, number) for name, number in versions],
        "pieces": pieces,
        "needed": [shelf.needed(number) for number in range(most + 2)],
        "signs": shelf.signs(),
        "altered": [
            shelf.altered(name, one, other) for name, one in versions for other in shelf.versions(name)
            if abs(one - other) < 3
        ],
    }


class Deeds:
    """Keeps, changes and drops, by a seed always the same ones; each can be done to several shelves."""

    def __init__(self, seed, signs="abc \\\n", longest=60):
        self.source = random.Random(seed)
        self.signs = signs
        self.longest = longest

    def some(self, longest):
        return some_text(self.source.random(), self.source.randrange(longest + 1), self.signs)

    def next(self, shelf):
        """A deed as its method's name and its arguments, such as the shelf does not refuse."""
        versions = [(name, number) for name in shelf.names() for number in shelf.versions(name)]
        kind = self.source.choice(("keep", "change", "change", "drop"))
        if len(versions) > 12:
            kind = "drop"
        if not versions or kind == "keep":
            return "keep", (self.source.choice(("a", "b", "work", "zzzzzzzzzzzz")), self.some(self.longest))
        name, number = self.source.choice(versions)
        if kind == "drop":
            return "drop", (name, number)
        text = shelf.text(name, number)
        start, end = sorted(self.source.randrange(len(text) + 1) for _ in range(2))
        if self.source.randrange(2):
            end = min(end, start + 5)
        return "change", (name, number, start, end, self.some(6))
