"""The drawings of bodies' layers, and bodies with a layer as it is drawn."""

from beadbodies.solids import Body

LINE_END = 10
FULL = 35
EMPTY = 46


class DrawingFault(ValueError):
    """A text that is no drawing of a grid's layer; place is where it is at fault."""

    def __init__(self, place):
        self.place = place


def drawing_of(body, z):
    """The bytes of layer z's drawing."""
    signs = []
    for y in range(body.grid.deep):
        signs.extend([FULL if body.mark_at(x, y, z) == 1 else EMPTY for x in range(body.grid.wide)])
        signs.append(LINE_END)
    return signs


def may_stand(sign, place, grid):
    """Whether a drawing of the grid's layers may have the sign at that place, which is within it."""
    if place % (grid.wide + 1) == grid.wide:
        return sign == LINE_END
    return sign == FULL or sign == EMPTY


def read_layer(grid, signs):
    """The marks of a layer by its drawing; raises DrawingFault if it is none of the grid's layers."""
    length = (grid.wide + 1) * grid.deep
    for place, sign in enumerate(signs[:length]):
        if not may_stand(sign, place, grid):
            raise DrawingFault(place)
    if len(signs) != length:
        raise DrawingFault(min(len(signs), length))
    return [1 if sign == FULL else 0 for sign in signs if sign != LINE_END]


def redrawn_body(body, z, signs):
    """The body with layer z as it is drawn; raises DrawingFault if that is no drawing of it."""
    start = body.grid.cell_number(0, 0, z)
    end = body.grid.cell_number(0, 0, z + 1)
    return Body(body.grid, body.marks[:start] + read_layer(body.grid, signs) + body.marks[end:])
