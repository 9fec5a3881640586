"""The errors of the package."""


class SeenError(ValueError):
    """The base of all errors of the package."""


class BadNumber(SeenError):
    """An integer, or a list of integers, that is none or out of bounds."""

    def __init__(self, part):
        self.part = part


class BadRatio(SeenError):
    """A ratio that is none or out of bounds."""

    def __init__(self, part):
        self.part = part


class BadTable(SeenError):
    """What is no table of integers."""

    def __init__(self, part):
        self.part = part


class BadChart(SeenError):
    """What is no chart, or makes none."""

    def __init__(self, part):
        self.part = part


class BadBody(SeenError):
    """What is no body, or makes none."""

    def __init__(self, part):
        self.part = part


class BadPicture(SeenError):
    """What is no picture, or makes none."""

    def __init__(self, part):
        self.part = part


class BadAlbum(SeenError):
    """What is no album, or makes none."""

    def __init__(self, part):
        self.part = part


class BadTray(SeenError):
    """What is no tray, or makes none."""

    def __init__(self, part):
        self.part = part


class BadSaying(SeenError):
    """What is no saying, or makes none."""

    def __init__(self, part):
        self.part = part


class BadFact(SeenError):
    """What is no fact, or makes none."""

    def __init__(self, part):
        self.part = part


class BadPaper(SeenError):
    """What is no paper of the class that is asked for."""

    def __init__(self, part):
        self.part = part


class BadDesk(SeenError):
    """What is no desk or shelf, or makes none."""

    def __init__(self, part):
        self.part = part


class Misfit(SeenError):
    """Values that do not fit together."""

    def __init__(self, part):
        self.part = part


class Missing(SeenError):
    """Any value that is none here; raised nowhere itself."""

    def __init__(self, value):
        self.value = value


class NoPin(Missing):
    """A value that is the number of no pin."""


class NoPicture(Missing):
    """A value that is the number of no picture, or of no row of a tray."""


class NoFact(Missing):
    """A value that is the number of no fact."""


class NoName(Missing):
    """A value under which nothing is kept."""


class Twice(SeenError):
    """A value that stands there already."""

    def __init__(self, value):
        self.value = value


class Impossible(SeenError):
    """What is asked cannot be; the paper, a denial, shows it."""

    def __init__(self, paper):
        self.paper = paper


class TooMany(SeenError):
    """There are more than most."""

    def __init__(self, what, most):
        self.what = what
        self.most = most


class Nothing(SeenError):
    """There is nothing to take back or to do again."""


class BadText(SeenError):
    """A text with an item that cannot stand."""

    def __init__(self, line, item):
        self.line = line
        self.item = item


class BadLine(SeenError):
    """A line of a desk, and the error that was raised there."""

    def __init__(self, line, error):
        self.line = line
        self.error = error
