"""The errors of Pacehouse. What an error is made with is kept as its attributes."""


class CaptionError(Exception):
    """The base class of all errors of this package."""


class BadRules(CaptionError):
    """What should make rules does not: part tells where."""

    def __init__(self, part):
        self.part = part


class BadText(CaptionError):
    """A text is no text of rules: line is the index of its first wrong line, -1 if it is no string."""

    def __init__(self, line):
        self.line = line


class OtherLetters(CaptionError):
    """Two rules do not have the same letters."""


class Mute(CaptionError):
    """Rules are not full: speech is the first one that has no right caption."""

    def __init__(self, speech):
        self.speech = speech


class TooSoon(CaptionError):
    """There is no plan of a lag: paper shows it."""

    def __init__(self, paper):
        self.paper = paper


class Unjoined(CaptionError):
    """Two rules cannot be joined: letter is written by the first ones and not heard by the other ones."""

    def __init__(self, letter):
        self.letter = letter


class BadPair(CaptionError):
    """A speech and a caption are no pair: part tells which of them is wrong."""

    def __init__(self, part):
        self.part = part


class OtherRules(CaptionError):
    """Two pieces are not by equal rules."""


class BadPlace(CaptionError):
    """A value is no place, or no index."""

    def __init__(self, place):
        self.place = place


class NothingToUndo(CaptionError):
    """There is nothing that could be taken back."""


class NothingToRedo(CaptionError):
    """There is nothing that could be made again."""


class BadName(CaptionError):
    """A value cannot become a name, or is one already."""

    def __init__(self, name):
        self.name = name


class NoName(CaptionError):
    """A value is no name that is kept."""

    def __init__(self, name):
        self.name = name


class BadPromise(CaptionError):
    """A value is no promise, or no tuple of promises."""

    def __init__(self, thing):
        self.thing = thing


class Broken(CaptionError):
    """A promise is not kept: paper shows it."""

    def __init__(self, promise, paper):
        self.promise = promise
        self.paper = paper


class BadPiece(CaptionError):
    """A value is no speech: place is the index of its first wrong letter, -1 if it is no string."""

    def __init__(self, place):
        self.place = place


class NoLag(CaptionError):
    """There is no plan of the lag."""

    def __init__(self, lag):
        self.lag = lag


class InvalidCommand(CaptionError):
    """A value has not the form of a command."""
