"""The errors of the package.

Each one sets its code itself: MapError and Missing themselves have none.
"""


class MapError(ValueError):
    """Something is not as it must be."""


class InvalidFraction(MapError):
    def __init__(self, value):
        super().__init__("the value is no fraction")
        self.code = "InvalidFraction"
        self.value = value


class ZeroDivisor(MapError):
    def __init__(self):
        super().__init__("nothing is divided by zero")
        self.code = "ZeroDivisor"


class InvalidSpot(MapError):
    def __init__(self, value):
        super().__init__("the value is no spot")
        self.code = "InvalidSpot"
        self.value = value


class Singular(MapError):
    def __init__(self):
        super().__init__("the determinant is zero")
        self.code = "Singular"


class InLine(MapError):
    def __init__(self):
        super().__init__("the three spots are in line")
        self.code = "InLine"


class InvalidName(MapError):
    def __init__(self, value):
        super().__init__("the value is no name")
        self.code = "InvalidName"
        self.value = value


class InvalidKind(MapError):
    def __init__(self, value):
        super().__init__("the value is no kind")
        self.code = "InvalidKind"
        self.value = value


class InvalidReading(MapError):
    def __init__(self, at):
        super().__init__("the value is no reading, or its mark stands ahead")
        self.code = "InvalidReading"
        self.at = at


class InvalidSheet(MapError):
    def __init__(self, at):
        super().__init__("the value is no sheet")
        self.code = "InvalidSheet"
        self.at = at


class InvalidMark(MapError):
    def __init__(self, at):
        super().__init__("the value is no mark, or it stands ahead")
        self.code = "InvalidMark"
        self.at = at


class DuplicateName(MapError):
    def __init__(self, name):
        super().__init__("the name is given already")
        self.code = "DuplicateName"
        self.name = name


class TooMany(MapError):
    def __init__(self, most):
        super().__init__("there would be more than the most that there may be")
        self.code = "TooMany"
        self.most = most


class InvalidText(MapError):
    def __init__(self, line, why):
        super().__init__("a line of the text cannot stand")
        self.code = "InvalidText"
        self.line = line
        self.why = why


class InUse(MapError):
    def __init__(self, name):
        super().__init__("it is in use and cannot go")
        self.code = "InUse"
        self.name = name


class InvalidPoint(MapError):
    def __init__(self, value):
        super().__init__("the value is no point of the room")
        self.code = "InvalidPoint"
        self.value = value


class InvalidClaim(MapError):
    def __init__(self, at, why):
        super().__init__("the value is no claim that may stand here")
        self.code = "InvalidClaim"
        self.at = at
        self.why = why


class InvalidSum(MapError):
    def __init__(self):
        super().__init__("the value is no sum of rows")
        self.code = "InvalidSum"


class InvalidLand(MapError):
    def __init__(self):
        super().__init__("the value is no whole land of the space")
        self.code = "InvalidLand"


class NotOfKind(MapError):
    def __init__(self, name):
        super().__init__("the table of the sheet would not be of its kind")
        self.code = "NotOfKind"
        self.name = name


class Disagrees(MapError):
    def __init__(self, name, mark):
        super().__init__("a reading does not agree with the land")
        self.code = "Disagrees"
        self.name = name
        self.mark = mark


class OtherRoom(MapError):
    def __init__(self):
        super().__init__("the rooms are not equal")
        self.code = "OtherRoom"


class Crushed(MapError):
    def __init__(self, name):
        super().__init__("the land crushes the sheet")
        self.code = "Crushed"
        self.name = name


class NotFollowing(MapError):
    def __init__(self):
        super().__init__("the form does not follow")
        self.code = "NotFollowing"


class NoLand(MapError):
    def __init__(self, name):
        super().__init__("no land is whole, as it would have to press the sheet")
        self.code = "NoLand"
        self.name = name


class Unled(MapError):
    def __init__(self, value):
        super().__init__("the spot is not led")
        self.code = "Unled"
        self.value = value


class NotNext(MapError):
    def __init__(self):
        super().__init__("the second joint does not begin where the first one ends")
        self.code = "NotNext"


class NotOne(MapError):
    def __init__(self, one, other):
        super().__init__("the two sheets are not of one block")
        self.code = "NotOne"
        self.one = one
        self.other = other


class NoArea(MapError):
    def __init__(self):
        super().__init__("the second area is always zero")
        self.code = "NoArea"


class RowStands(MapError):
    def __init__(self, key):
        super().__init__("the row was put already")
        self.code = "RowStands"
        self.key = key


class Stands(MapError):
    def __init__(self):
        super().__init__("the space stands")
        self.code = "Stands"


class InvalidNumber(MapError):
    def __init__(self, value):
        super().__init__("the value is no number that may stand here")
        self.code = "InvalidNumber"
        self.value = value


class Uncut(MapError):
    def __init__(self, mark):
        super().__init__("the mark would be on neither sheet")
        self.code = "Uncut"
        self.mark = mark


class InvalidDeed(MapError):
    def __init__(self, at):
        super().__init__("the value is no deed")
        self.code = "InvalidDeed"
        self.at = at


class NoDraft(MapError):
    def __init__(self):
        super().__init__("no draft is begun")
        self.code = "NoDraft"


class Missing(LookupError):
    """Something is asked for that is not there."""


class UnknownSheet(Missing):
    def __init__(self, name):
        super().__init__("there is no such sheet")
        self.code = "UnknownSheet"
        self.name = name


class UnknownMark(Missing):
    def __init__(self, name):
        super().__init__("there is no such mark")
        self.code = "UnknownMark"
        self.name = name


class UnknownReading(Missing):
    def __init__(self, name, mark):
        super().__init__("there is no such reading")
        self.code = "UnknownReading"
        self.name = name
        self.mark = mark


class UnknownRow(Missing):
    def __init__(self, key):
        super().__init__("there is no such row")
        self.code = "UnknownRow"
        self.key = key


class UnknownKey(Missing):
    def __init__(self, key):
        super().__init__("there is no such unknown")
        self.code = "UnknownKey"
        self.key = key


class UnknownClaim(Missing):
    def __init__(self, at):
        super().__init__("there is no such told claim")
        self.code = "UnknownClaim"
        self.at = at


class NothingLeft(IndexError):
    def __init__(self):
        super().__init__("there is nothing left to take back or to do again")
        self.code = "NothingLeft"
