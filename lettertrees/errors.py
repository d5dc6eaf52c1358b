"""The errors of Lettertrees, each with what it tells as its attributes."""


class TreesError(ValueError):
    """Any error that Lettertrees raises of itself."""


class BadLetters(TreesError):
    """The value is no string of 2 to 26 different small letters."""

    def __init__(self, letters):
        self.letters = letters


class TooMany(TreesError):
    """There are more of something than the most that is let (or none of it)."""

    def __init__(self, what, many, most):
        self.what = what
        self.many = many
        self.most = most


class BadRow(TreesError):
    """The row of this number is no row of a tree."""

    def __init__(self, number):
        self.number = number


class Lone(TreesError):
    """The parent of this place is not there."""

    def __init__(self, place):
        self.place = place


class NoPlace(TreesError):
    """The value is no place that is there."""

    def __init__(self, place):
        self.place = place


class BadKind(TreesError):
    """The element of this number, on this side of a rule, is no kind or stands twice."""

    def __init__(self, side, number):
        self.side = side
        self.number = number


class BadName(TreesError):
    """The value is none of the known names."""

    def __init__(self, name):
        self.name = name


class BadWord(TreesError):
    """The word of this number is no word over the letters or stands twice."""

    def __init__(self, number):
        self.number = number


class NotExact(TreesError):
    """The rule does not tell just one tree for each set of words."""


class BadSize(TreesError):
    """The value is no integer between the bounds that are told."""

    def __init__(self, size):
        self.size = size


class BadWish(TreesError):
    """The value is no wish that is known here."""

    def __init__(self, name):
        self.name = name


class BadRule(TreesError):
    """What this name stands for is no rule of a grove, or it is no name."""

    def __init__(self, name):
        self.name = name


class Ring(TreesError):
    """This name stands below itself."""

    def __init__(self, name):
        self.name = name


class NoRule(TreesError):
    """The value is none of the names of a grove."""

    def __init__(self, root):
        self.root = root


class BadRank(TreesError):
    """The value is no rank of a kept word."""

    def __init__(self, number):
        self.number = number


class BadStatement(TreesError):
    """The statement of this number, in this block, is wrong by itself."""

    def __init__(self, block, number):
        self.block = block
        self.number = number


class BadText(TreesError):
    """The text of a routine is wrong at this line."""

    def __init__(self, line):
        self.line = line


class BadOrder(TreesError):
    """The sign of this number tells no step of a call that goes on."""

    def __init__(self, number):
        self.number = number


class BadLock(TreesError):
    """The value is no order of locks."""

    def __init__(self, order):
        self.order = order


class NoPut(TreesError):
    """The house has no routine for the wish put."""


class BadOver(TreesError):
    """The lower part of a fraction is zero."""
