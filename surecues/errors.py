"""The errors that the program raises."""


class CueError(ValueError):
    """The base class of all errors that the program raises."""


class NumberError(CueError):
    """A number with a bottom of 0."""


class TextError(CueError):
    """A fault in the text of a clip, in the line of this number."""

    def __init__(self, line, what):
        self.line = line
        self.what = what


class ClipError(CueError):
    """A new clip that cannot be made."""

    def __init__(self, what):
        self.what = what


class PlayError(CueError):
    """Something that a player refuses to do."""

    def __init__(self, what):
        self.what = what


class BookError(CueError):
    """Something that a book refuses; chain tells why a fact is a contradiction."""

    def __init__(self, what, chain):
        self.what = what
        # A copy, so that the error stays as it is if the caller goes on with the list.
        self.chain = list(chain)


class SceneError(CueError):
    """Something that a scene refuses to do."""

    def __init__(self, what):
        self.what = what
