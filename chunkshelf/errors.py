"""The refusals of Chunkshelf."""


class ShelfError(ValueError):
    """Any refusal."""


class NoSize(ShelfError):
    """A width or a reach is none."""


class NoName(ShelfError):
    """What is handed in as a name is none."""


class NotThere(ShelfError):
    """A piece or a version is not kept."""


class NoPlace(ShelfError):
    """Two places do not bound a stretch of the text."""


class NoText(ShelfError):
    """What is handed in as a text is none."""


class TooLong(ShelfError):
    """A version's text would have too many signs."""


class TooMany(ShelfError):
    """The shelf keeps as many versions as it may."""


class NoNote(ShelfError):
    """A text is not what a shelf's note looks like."""
