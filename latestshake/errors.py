"""The errors of the package: one class for each kind of failure, each keeping what was found wrong."""


class ShakeError(ValueError):
    """Stands above all other errors of the package."""


class InvalidScene(ShakeError):
    """What is no scene; path leads to the part that is wrong first."""

    def __init__(self, path):
        self.path = path


class InvalidText(ShakeError):
    """What is no text of a scene; place is where the first word stands that does not fit."""

    def __init__(self, place):
        self.place = place


class InvalidLot(ShakeError):
    """What is no lot of readings; index is that of the first wrong element."""

    def __init__(self, index):
        self.index = index


class InvalidSides(ShakeError):
    """What is no tuple of sides; index is that of the first wrong element."""

    def __init__(self, index):
        self.index = index


class InvalidCorners(ShakeError):
    """What tells no polygon; index is that of the first wrong element."""

    def __init__(self, index):
        self.index = index


class InvalidNumber(ShakeError):
    """What is no number with one square root."""

    def __init__(self, given):
        self.given = given


class InvalidFraction(ShakeError):
    """What is no fraction in lowest terms."""

    def __init__(self, given):
        self.given = given


class InvalidPoint(ShakeError):
    """What is no point, no place and moment told with one square root."""

    def __init__(self, given):
        self.given = given


class InvalidCount(ShakeError):
    """What is no whole number within the limits that are asked for."""

    def __init__(self, given):
        self.given = given


class InvalidWord(ShakeError):
    """What is none of the words that may be asked for."""

    def __init__(self, given):
        self.given = given


class InvalidPlace(ShakeError):
    """What is no pair of fractions."""

    def __init__(self, given):
        self.given = given


class InvalidLead(ShakeError):
    """What leads no scene to another one."""

    def __init__(self, given):
        self.given = given


class InvalidName(ShakeError):
    """What is no name of a station and no label."""

    def __init__(self, given):
        self.given = given


class InvalidReading(ShakeError):
    """What is no pair of a LOW and a HIGH."""

    def __init__(self, given):
        self.given = given


class InvalidSide(ShakeError):
    """What is no side of a line."""

    def __init__(self, given):
        self.given = given


class InvalidWindow(ShakeError):
    """What is no window of a picture."""

    def __init__(self, given):
        self.given = given


class InvalidDrawing(ShakeError):
    """What is no drawing of a picture."""

    def __init__(self, given):
        self.given = given


class InvalidLine(ShakeError):
    """What is no line for a console."""

    def __init__(self, given):
        self.given = given


class SamePlace(ShakeError):
    """A station at the place of another one, whose name is given."""

    def __init__(self, given):
        self.given = given


class TooMany(ShakeError):
    """One more than is let."""

    def __init__(self, given):
        self.given = given


class Unknown(ShakeError):
    """A name or a label that nothing has."""

    def __init__(self, given):
        self.given = given


class InUse(ShakeError):
    """What can't be struck, as the reading whose label is given names it."""

    def __init__(self, given):
        self.given = given


class Taken(ShakeError):
    """A label that something of another kind has."""

    def __init__(self, given):
        self.given = given


class NoStation(ShakeError):
    """A question that needs a station, to a book without one."""


class NothingToUndo(ShakeError):
    """No step is left that could be undone."""


class NothingToRedo(ShakeError):
    """No undo is left that could be redone."""
