"""A plain model of map rooms, which keeps all states that there were."""

from fractions import Fraction

from lostland.rooms import Room
from lostland.sheets import Sheet
from tests.papers import is_fraction
from tests.support import KINDS

ITEMS = {"sheet": 2, "off": 2, "read": 4, "strike": 3, "kind": 3, "mark": 2, "unmark": 2, "tell": 2, "untell": 2}


class Refused(Exception):
    """An error of the package, as its code and its values."""

    def __init__(self, code, **told):
        super().__init__(code)
        self.code, self.told = code, told


def is_name(value):
    return type(value) is str and 1 <= len(value) <= 6 and all("a" <= sign <= "z" for sign in value)


def is_spot(value):
    return type(value) is tuple and len(value) == 2 and all(is_fraction(part) for part in value)


def points_in(value):
    """The points that stand anywhere in a claim."""
    if not isinstance(value, tuple):
        return []
    if len(value) in (2, 3) and value[0] in ("mark", "spot"):
        return [value]
    return [point for part in value for point in points_in(part)]


def number_of(word):
    """The fraction with a text; None if there is none."""
    over, slash, under = word.partition("/")
    digits = over[1:] if over[:1] == "-" else over
    for part in [digits] + [under] * len(slash):
        if not part or any(sign not in "0123456789" for sign in part) or (part[0] == "0" and part != "0"):
            return None
    if over == "-0" or (slash and int(under) < 2):
        return None
    value = Fraction(int(over), int(under or 1))
    if value.denominator != int(under or 1):
        return None
    return (value.numerator, value.denominator)


def point_of(word):
    if is_name(word):
        return ("mark", word)
    parts = word.split(":")
    if len(parts) != 3 or not is_name(parts[0]):
        return None
    place = (number_of(parts[1]), number_of(parts[2]))
    return None if None in place else ("spot", parts[0], place)


def claim_of(text):
    """The claim with a text, the sum of its weights left aside; None if there is none."""
    if type(text) is not str:
        return None
    word, *words = text.split(" ")
    if word == "not":
        inner = claim_of(" ".join(words))
        return None if inner is None or inner[0] not in ("same", "middle", "mix") else (word, inner)
    if word == "mix":
        points, weights = [point_of(one) for one in words[::2]], [number_of(one) for one in words[1::2]]
        if not 1 <= len(weights) <= 4 or len(points) != len(weights) + 1 or None in points + weights:
            return None
        # A mix is written as: point, then pairs of a weight and a point.
        return ("mix", points[0], tuple(zip(weights, points[1:])))
    many = {"same": 2, "middle": 3, "line": 3, "side": 4}.get(word)
    points = [point_of(one) for one in words]
    return None if len(points) != many or None in points else (word, *points)


def weights_of(claim):
    if claim[0] == "not":
        return weights_of(claim[1])
    return [Fraction(*weight) for weight, _ in claim[2]] if claim[0] == "mix" else [1]


class State:
    """Sheets as a dict from names to (kind, dict of readings), marks and told claims."""

    def __init__(self, sheets, marks, told):
        self.sheets, self.marks, self.told = sheets, marks, told

    def room(self):
        return Room(*[Sheet(name, kind, list(readings.items())) for name, (kind, readings) in self.sheets.items()],
                    marks=sorted(self.marks))

    def copy(self):
        sheets = {name: (kind, dict(readings)) for name, (kind, readings) in self.sheets.items()}
        return State(sheets, set(self.marks), list(self.told))

    def has_name(self, name):
        if type(name) is not str or name not in self.sheets:
            raise Refused("UnknownSheet", name=name)

    def check_marks(self):
        if len(self.marks) > 12:
            raise Refused("TooMany", most=12)

    def deed(self, word, *parts):
        """The state behind a deed."""
        state = self.copy()
        getattr(state, word)(*parts)
        return state

    def sheet(self, sheet):
        if type(sheet) is not Sheet:
            raise Refused("InvalidSheet", at=-1)
        self.sheets[sheet.name] = (sheet.kind, dict(sheet.readings()))
        if len(self.sheets) > 8:
            raise Refused("TooMany", most=8)
        self.marks |= set(dict(sheet.readings()))
        self.check_marks()

    def off(self, name):
        self.has_name(name)
        if any(point[:2] == ("spot", name) for claim in self.told for point in points_in(claim)):
            raise Refused("InUse", name=name)
        del self.sheets[name]

    def read(self, name, mark, place):
        self.has_name(name)
        if not is_name(mark):
            raise Refused("InvalidName", value=mark)
        if not is_spot(place):
            raise Refused("InvalidSpot", value=place)
        self.sheets[name][1][mark] = place
        self.marks.add(mark)
        self.check_marks()

    def strike(self, name, mark):
        self.has_name(name)
        if type(mark) is not str or mark not in self.sheets[name][1]:
            raise Refused("UnknownReading", name=name, mark=mark)
        del self.sheets[name][1][mark]

    def kind(self, name, kind):
        self.has_name(name)
        if type(kind) is not str or kind not in KINDS:
            raise Refused("InvalidKind", value=kind)
        self.sheets[name] = (kind, self.sheets[name][1])

    def mark(self, name):
        if not is_name(name):
            raise Refused("InvalidName", value=name)
        self.marks.add(name)
        self.check_marks()

    def unmark(self, name):
        if type(name) is not str or name not in self.marks:
            raise Refused("UnknownMark", name=name)
        if (any(name in readings for _, readings in self.sheets.values())
                or any(("mark", name) in points_in(claim) for claim in self.told)):
            raise Refused("InUse", name=name)
        self.marks.remove(name)

    def tell(self, text):
        claim = claim_of(text)
        if claim is None:
            raise Refused("InvalidClaim", at=0, why="form")
        for point in points_in(claim):
            if point[1] not in (self.marks if point[0] == "mark" else self.sheets):
                raise Refused("InvalidClaim", at=0, why="point")
        if sum(weights_of(claim)) != 1:
            raise Refused("InvalidClaim", at=0, why="weights")
        if claim[0] not in ("same", "middle", "mix"):
            raise Refused("InvalidClaim", at=0, why="form")
        if len(self.told) == 8:
            raise Refused("TooMany", most=8)
        self.told.append(claim)

    def untell(self, at):
        if type(at) is not int or at not in range(len(self.told)):
            raise Refused("UnknownClaim", at=at)
        del self.told[at]


class History:
    """All states since it was begun, the deeds between them, and which state is the present one."""

    def __init__(self, state):
        self.states, self.deeds, self.at = [state], [], 0


class Model:
    """A map room as a list of histories, the last of which is the present draft."""

    def __init__(self):
        self.stack = [History(State({}, set(), []))]

    @property
    def now(self):
        return self.stack[-1].states[self.stack[-1].at]

    def step(self, deeds, state):
        top = self.stack[-1]
        top.states[top.at + 1:], top.deeds[top.at:] = [state], [list(deeds)]
        top.at += 1

    def after(self, deeds):
        for at, deed in enumerate(deeds):
            if not (type(deed) is tuple and deed and type(deed[0]) is str
                    and ITEMS.get(deed[0]) == len(deed)):
                raise Refused("InvalidDeed", at=at)
        state = self.now
        for deed in deeds:
            state = state.deed(*deed)
        return state

    def do(self, *deeds):
        state = self.after(deeds)
        if deeds:
            self.step(deeds, state)

    def undo(self):
        if self.stack[-1].at == 0:
            raise Refused("NothingLeft")
        self.stack[-1].at -= 1

    def redo(self):
        if self.stack[-1].at == len(self.stack[-1].deeds):
            raise Refused("NothingLeft")
        self.stack[-1].at += 1

    def begin(self):
        if len(self.stack) == 5:
            raise Refused("TooMany", most=4)
        self.stack.append(History(self.now))

    def keep(self):
        if len(self.stack) == 1:
            raise Refused("NoDraft")
        state, top = self.now, self.stack.pop()
        if top.at:
            self.step(sum(top.deeds[:top.at], []), state)

    def drop(self):
        if len(self.stack) == 1:
            raise Refused("NoDraft")
        self.stack.pop()

    def history(self):
        top = self.stack[-1]
        return (top.at, len(top.deeds) - top.at)

    def journal(self):
        return [deed for top in self.stack for step in top.deeds[:top.at] for deed in step]
