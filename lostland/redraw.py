"""Sheets that are drawn anew from themselves or from others."""

from lostland.errors import DuplicateName, NotOfKind, NotOne, UnknownMark, UnknownSheet, Uncut
from lostland.exact import ONE, ZERO
from lostland.joints import blocks, joint
from lostland.kinds import stays
from lostland.motions import Motion, moved_spot
from lostland.sheets import Sheet
from lostland.spaces import Space
from lostland.tables import Table
from lostland.where import index_of

_FLIPPED = {"slanted": "slanted", "turned": "mirrored", "mirrored": "turned",
            "stretched": "stretched"}


def redrawn(space, name, motion):
    """The space with a sheet redrawn by a motion."""
    kind = space.room.sheet(name).kind
    back = motion.table.inverse()
    if not stays(kind, back, kind) or (kind == "even" and back != Table.identity()):
        raise NotOfKind(name)
    return _moved(space, name, motion, kind)


def flipped(space, name):
    """The space with a sheet flipped."""
    kind = space.room.sheet(name).kind
    if kind not in _FLIPPED:
        raise NotOfKind(name)
    return _moved(space, name, Motion(Table(ONE, ZERO, ZERO, (-1, 1))), _FLIPPED[kind])


def overlaid(space, on):
    """The space with all marks that are known on a sheet read by it."""
    sheet = space.room.sheet(on)
    known = index_of(space)
    for mark in space.room.marks():
        if mark not in sheet and on in known[mark]:
            sheet = sheet.with_reading(mark, known[mark][on])
    return Space(space.room.with_sheet(sheet), told=space.told())


def cut(space, name, first, second, other):
    """The space with a sheet cut in two, each of which keeps the readings of some marks."""
    sheet = space.room.sheet(name)
    for mark in [*first, *second]:
        if mark not in sheet:
            raise UnknownMark(mark)
    for mark in sheet.marks():
        if mark not in first and mark not in second:
            raise Uncut(mark)
    rest = Sheet(name, sheet.kind, [(mark, spot) for mark, spot in sheet.readings() if mark in first])
    more = Sheet(other, sheet.kind, [(mark, spot) for mark, spot in sheet.readings() if mark in second])
    if other in space.room:
        raise DuplicateName(other)
    return Space(space.room.with_sheet(rest).with_sheet(more), told=space.told())


def joined(space, one, other):
    """The space with the sheet other joined into the sheet one."""
    sheet, away = space.room.sheet(one), space.room.sheet(other)
    if one == other:
        raise DuplicateName(one)
    over = joint(space, other, one)
    if over.size != 2:
        raise NotOne(one, other)
    motion = over.motion_over()
    if away.kind == "even" and sheet.kind != "even":
        raise NotOfKind(other)
    if not stays(sheet.kind, motion.table, away.kind):
        raise NotOfKind(other)
    for mark, spot in away.readings():
        if mark not in sheet:
            sheet = sheet.with_reading(mark, moved_spot(motion, spot))
    told = [_moved_claim(claim, other, motion, one) for claim in space.told()]
    return Space(space.room.with_sheet(sheet).without_sheet(other), told=told)


def drawn_block(space, on):
    """The space with all other sheets of the block of a sheet joined into it."""
    if on not in space.room:
        raise UnknownSheet(on)
    block = [names for names in blocks(space) if on in names][0]
    result = space
    for name in block:
        if name != on:
            result = joined(result, on, name)
    return result


def _moved(space, name, motion, kind):
    """The space with all spots of a sheet moved, and with this kind of it."""
    readings = [(mark, moved_spot(motion, spot)) for mark, spot in space.room.sheet(name).readings()]
    told = [_moved_claim(claim, name, motion, name) for claim in space.told()]
    return Space(space.room.with_sheet(Sheet(name, kind, readings)), told=told)


def _moved_claim(claim, name, motion, target):
    """A plain claim with the points on a sheet moved to a sheet, which may be the same one."""
    if claim[0] == "mix":
        parts = [(weight, _moved_point(point, name, motion, target)) for weight, point in claim[2]]
        return ("mix", _moved_point(claim[1], name, motion, target), tuple(parts))
    return (claim[0], *[_moved_point(point, name, motion, target) for point in claim[1:]])


def _moved_point(point, name, motion, target):
    """A point, moved to a sheet if it lies on the sheet with the name."""
    if point[:2] != ("spot", name):
        return point
    return ("spot", target, moved_spot(motion, point[2]))
