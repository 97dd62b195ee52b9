"""Bodies grown and shrunk, layer by layer."""

from beadbodies.solids import Body

GREATEST_REACH = 200


def places_round(grid):
    """The (x, y) of a layer's cells and of the places next to them beyond the grid."""
    places = []
    for y in range(-1, grid.deep + 1):
        places.extend([(x, y) for x in range(-1, grid.wide + 1)])
    return places


def marked_places(body, z, mark):
    """Those places of and round layer z that are of the body (mark 1), or those that aren't (mark 0)."""
    return [place for place in places_round(body.grid) if body.mark_at(place[0], place[1], z) == mark]


def is_near_any(cell, places, q):
    """Whether one of the places of the cell's layer is near it by q."""
    for place in places:
        dx = place[0] - cell[0]
        dy = place[1] - cell[1]
        if dx * dx + dy * dy <= q:
            return True
    return False


def near_marked(body, q, mark):
    """Of each cell by its number whether a place with that mark is near it by q."""
    layers = [marked_places(body, z, mark) for z in range(body.grid.high)]
    cells = [body.grid.cell_place(number) for number in range(body.grid.cell_count())]
    return [is_near_any(cell, layers[cell[2]], q) for cell in cells]


def grown_body(body, q):
    """The cells that a cell of the body is near by q."""
    return Body(body.grid, [1 if near else 0 for near in near_marked(body, q, 1)])


def shrunk_body(body, q):
    """The cells such that all places near them by q are of the body."""
    # Of the places beyond the grid those next to it are the nearest to any cell, so no others need be asked.
    return Body(body.grid, [0 if near else 1 for near in near_marked(body, q, 0)])
