"""The drawings of bodies' layers."""

LINE_END = 10
FULL = 35
EMPTY = 46


def drawing_of(body, z):
    """The bytes of layer z's drawing."""
    signs = []
    for y in range(body.grid.deep):
        signs.extend([FULL if body.mark_at(x, y, z) == 1 else EMPTY for x in range(body.grid.wide)])
        signs.append(LINE_END)
    return signs
