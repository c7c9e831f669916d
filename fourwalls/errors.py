"""The errors of the package: one class for each kind of failure."""


class HouseError(ValueError):
    """What is wrong with a value that was passed."""


class Missing(LookupError):
    """What was asked for is not there."""


class InvalidFaces(HouseError):
    """The given value is no string of faces."""

    def __init__(self, given):
        self.given = given
        self.code = self.__class__.__name__


class InvalidCutters(HouseError):
    """The given value is no string of cutters."""

    def __init__(self, given):
        self.given = given
        self.code = self.__class__.__name__


class InvalidLine(HouseError):
    """The value at this index is no line, or is a line too many."""

    def __init__(self, at):
        self.at = at
        self.code = self.__class__.__name__


class InvalidRoom(HouseError):
    """The given value is no room of the faces."""

    def __init__(self, given):
        self.given = given
        self.code = self.__class__.__name__


class InvalidCutter(HouseError):
    """The given value is none of the cutters."""

    def __init__(self, given):
        self.given = given
        self.code = self.__class__.__name__


class InvalidFace(HouseError):
    """The given value is none of the faces."""

    def __init__(self, given):
        self.given = given
        self.code = self.__class__.__name__


class InvalidString(HouseError):
    """The given value is no string of the faces that is asked for."""

    def __init__(self, given):
        self.given = given
        self.code = self.__class__.__name__


class InvalidView(HouseError):
    """The given value is none of the views that are asked for."""

    def __init__(self, given):
        self.given = given
        self.code = self.__class__.__name__


class InvalidSign(HouseError):
    """The given value is no sign of a cut."""

    def __init__(self, given):
        self.given = given
        self.code = self.__class__.__name__


class InvalidStep(HouseError):
    """The item at this index is no step; -1: there is no list of steps."""

    def __init__(self, at):
        self.at = at
        self.code = self.__class__.__name__


class InvalidAddress(HouseError):
    """The given value is no address that is asked for."""

    def __init__(self, given):
        self.given = given
        self.code = self.__class__.__name__


class InvalidPlace(HouseError):
    """The given pair is no place between two sides."""

    def __init__(self, given):
        self.given = given
        self.code = self.__class__.__name__


class InvalidTable(HouseError):
    """The item at this index is no row of a table; -1: there is no table."""

    def __init__(self, at):
        self.at = at
        self.code = self.__class__.__name__


class InvalidBad(HouseError):
    """The item at this index is no next bad state; -1: there is no list."""

    def __init__(self, at):
        self.at = at
        self.code = self.__class__.__name__


class InvalidModulus(HouseError):
    """The given value is no modulus."""

    def __init__(self, given):
        self.given = given
        self.code = self.__class__.__name__


class InvalidRest(HouseError):
    """The given value is no rest of the modulus."""

    def __init__(self, given):
        self.given = given
        self.code = self.__class__.__name__


class InvalidNumber(HouseError):
    """The given value is no number that is asked for."""

    def __init__(self, given):
        self.given = given
        self.code = self.__class__.__name__


class InvalidRatio(HouseError):
    """The given value is no ratio that is asked for."""

    def __init__(self, given):
        self.given = given
        self.code = self.__class__.__name__


class InvalidLimit(HouseError):
    """The given value is no limit of a floor."""

    def __init__(self, given):
        self.given = given
        self.code = self.__class__.__name__


class InvalidPlan(HouseError):
    """The item at this index is wrong, or the rooms cover no floor."""

    def __init__(self, at):
        self.at = at
        self.code = self.__class__.__name__


class InvalidText(HouseError):
    """The line with this index of a text is wrong."""

    def __init__(self, line):
        self.line = line
        self.code = self.__class__.__name__


class InvalidPage(HouseError):
    """The line with this index of a page is wrong."""

    def __init__(self, line):
        self.line = line
        self.code = self.__class__.__name__


class InvalidPaper(HouseError):
    """What is asked does not hold."""

    def __init__(self):
        self.code = self.__class__.__name__


class OtherFaces(HouseError):
    """Two things have unlike faces."""

    def __init__(self):
        self.code = self.__class__.__name__


class OtherCutters(HouseError):
    """Two books have unlike cutters."""

    def __init__(self):
        self.code = self.__class__.__name__


class NotUnited(HouseError):
    """The parts of the cut with this address do not both stand whole."""

    def __init__(self, given):
        self.given = given
        self.code = self.__class__.__name__


class TooMany(HouseError):
    """There are more than this number."""

    def __init__(self, most):
        self.most = most
        self.code = self.__class__.__name__


class Full(HouseError):
    """A floor would have more rooms than this number."""

    def __init__(self, most):
        self.most = most
        self.code = self.__class__.__name__


class UnknownState(Missing):
    """The value is no state of the machine."""

    def __init__(self, state):
        self.state = state
        self.code = self.__class__.__name__


class UnknownRoom(Missing):
    """The value is no index of a room of the row."""

    def __init__(self, at):
        self.at = at
        self.code = self.__class__.__name__


class NothingLeft(IndexError):
    """There is no step to undo or redo."""

    def __init__(self):
        self.code = self.__class__.__name__
