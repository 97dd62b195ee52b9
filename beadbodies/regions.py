"""What hangs together by steps to one of six neighbours: the pieces of bodies, and their hollows filled."""

from beadbodies.solids import Body

STEPS = ((1, 0, 0), (-1, 0, 0), (0, 1, 0), (0, -1, 0), (0, 0, 1), (0, 0, -1))


def neighbours(grid, number):
    """The numbers of the cell's neighbours within the grid."""
    place = grid.cell_place(number)
    places = [(place[0] + step[0], place[1] + step[1], place[2] + step[2]) for step in STEPS]
    return [grid.cell_number(at[0], at[1], at[2]) for at in places if grid.has_cell(at[0], at[1], at[2])]


def spread(grid, passable, start, region, found):
    """Notes in found, as of that region, start and all cells that steps over passable cells lead to."""
    found[start] = region
    waiting = [start]
    # A loop and no recursion: a way may lead through all the cells of a grid.
    while len(waiting) > 0:
        number = waiting.pop()
        for neighbour in neighbours(grid, number):
            if passable[neighbour] == 1 and neighbour not in found:
                found[neighbour] = region
                waiting.append(neighbour)


def regions_from(grid, passable, starts):
    """Of each cell that steps over passable cells lead to from a start: its region's number, by the first starts."""
    found = {}
    count = 0
    for start in starts:
        if passable[start] == 1 and start not in found:
            spread(grid, passable, start, count, found)
            count += 1
    return found


def piece_numbers(body):
    """Of each cell of the body the number of its piece."""
    # The cells come by their numbers, so each piece is found, and numbered, by its least one.
    return regions_from(body.grid, body.marks, list(range(body.grid.cell_count())))


def piece_count(body):
    return max(list(piece_numbers(body).values()), default=-1) + 1


def is_at_border(grid, number):
    place = grid.cell_place(number)
    return 0 in place or place[0] == grid.wide - 1 or place[1] == grid.deep - 1 or place[2] == grid.high - 1


def filled_body(body):
    """The body and all cells from which no way round it leads to the grid's border."""
    numbers = list(range(body.grid.cell_count()))
    border = [number for number in numbers if is_at_border(body.grid, number)]
    outside = regions_from(body.grid, [1 - mark for mark in body.marks], border)
    return Body(body.grid, [0 if number in outside else 1 for number in numbers])
