"""The listing of a room."""

from lostland.exact import fraction_text


def listing(room):
    """The lines of the listing, one for each reading, or for a sheet without readings."""
    for sheet in room:
        name = sheet.name.ljust(6)
        for mark, (x, y) in sheet.readings():
            yield f"{name} {mark.ljust(6)} {fraction_text(x).rjust(9)} {fraction_text(y).rjust(9)}"
        if len(sheet) == 0:
            yield f"{name} -"
