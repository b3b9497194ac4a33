"""Joints, which lead spots of one sheet to another one, and blocks of sheets."""

from lostland.errors import InvalidSpot, NotNext, NotOne, UnknownSheet, Unled
from lostland.exact import ONE, ZERO, divided, is_spot, minus, vector_minus
from lostland.flats import Flat
from lostland.motions import moved_spot
from lostland.whole import whole_land

_WORDS = ("none", "pin", "hinge", "one")


class Joint:
    """The spots of one sheet that are known on another one, and where they are known."""

    def __init__(self, one, other, flat, motion):
        self.one = one
        self.other = other
        self._flat = flat
        # It leads the spots of the flat; what it does to others means nothing.
        self._motion = motion

    @property
    def size(self):
        """The size of the flat of the spots that are led."""
        return self._flat.size

    @property
    def word(self):
        """What the joint is called."""
        return _WORDS[self._flat.size + 1]

    def flat(self):
        """The flat of the spots that are led."""
        return self._flat

    def image(self):
        """The flat of the spots to which they are led."""
        return self._flat.moved(self._motion)

    def lead(self, spot):
        """The spot on the other sheet."""
        if not is_spot(spot):
            raise InvalidSpot(spot)
        if spot not in self._flat:
            raise Unled(spot)
        return moved_spot(self._motion, spot)

    def pairs(self):
        """Pairs of a spot and where it is led; the flat of the joint goes through the spots."""
        return [(spot, moved_spot(self._motion, spot)) for spot in self._flat.spots()]

    def motion_over(self):
        """The motion of a joint that is one."""
        if self.size != 2:
            raise NotOne(self.one, self.other)
        return self._motion

    def back(self):
        """The joint that leads the other way."""
        return Joint(self.other, self.one, self.image(), self._motion.inverse())

    def then(self, following):
        """This joint and, behind it, one that begins where it ends."""
        if following.one != self.other:
            raise NotNext()
        shared = self.image() & following.flat()
        flat = shared.moved(self._motion.inverse())
        return Joint(self.one, following.other, flat, following._motion * self._motion)

    def __eq__(self, other):
        return (isinstance(other, Joint) and self.one == other.one and self.other == other.other
                and self._flat == other._flat
                and all([moved_spot(self._motion, spot) == moved_spot(other._motion, spot)
                         for spot in self._flat.spots()]))

    def __repr__(self):
        return f"Joint({self.one} {self.other}, {self.word})"


def joint(space, one, other):
    """The joint of two sheets."""
    for name in (one, other):
        if name not in space.room:
            raise UnknownSheet(name)
    return _joint_of(whole_land(space), space.base(), one, other)


def joints(space):
    """The joints of all pairs of different sheets that lead a spot, in order."""
    land = whole_land(space)
    base = space.base()
    names = space.room.names()
    for at, one in enumerate(names):
        for other in names[at + 1:]:
            found = _joint_of(land, base, one, other)
            if found.size >= 0:
                yield found


def blocks(space):
    """The list of the lists of the names of the sheets of each block."""
    land = whole_land(space)
    base = space.base()
    found = []
    for name in space.room.names():
        near = [block for block in found if _joint_of(land, base, block[0], name).size == 2]
        if near == []:
            found.append([name])
        else:
            near[0].append(name)
    return found


def _joint_of(land, base, one, other):
    """The joint of two sheets, with a whole land and a base of the space."""
    bridge = land.motion(other).inverse() * land.motion(one)
    flat = Flat.whole()
    for own in base:
        # A known spot is where the whole land has it, and lies there in all other lands, too.
        start, end = own.motion(one), own.motion(other) * bridge
        flat = flat & _meeting(start, end)
    return Joint(one, other, flat, bridge)


def _meeting(one, other):
    """The flat of the spots that two motions take to the same spot."""
    a, b, c, d = (one.table - other.table).entries()
    x, y = vector_minus(other.move, one.move)
    return _solutions(a, b, x) & _solutions(c, d, y)


def _solutions(a, b, total):
    """The flat of the spots (x, y) with a x + b y = total."""
    if b != ZERO:
        start, end = divided(total, b), divided(minus(total, a), b)
        return Flat((ZERO, start), (ONE, end))
    if a != ZERO:
        across = divided(total, a)
        return Flat((across, ZERO), (across, ONE))
    return Flat.whole() if total == ZERO else Flat()
