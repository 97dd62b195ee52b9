"""Grids of cells, bodies of cells and their bytes, and two bodies taken together."""

GREATEST_SIDE = 12

MARK = (66, 68, 66, 49)
# How many bytes stand in front of the bits: the mark, wide, deep and high.
HEAD = 7

OF_EITHER = 0
OF_BOTH = 1
OF_FIRST_ALONE = 2
OF_JUST_ONE = 3

WRONG_FRAME = 1
WRONG_SIDE = 2
WRONG_BIT = 3


class BodyFault(ValueError):
    """Bytes that are no body's: the kind of the fault, and the place."""

    def __init__(self, kind, place):
        self.kind = kind
        self.place = place


class Grid:
    """Cells wide by deep by high, told by their numbers."""

    def __init__(self, wide, deep, high):
        self.wide = wide
        self.deep = deep
        self.high = high

    def cell_count(self):
        return self.wide * self.deep * self.high

    def cell_number(self, x, y, z):
        return (z * self.deep + y) * self.wide + x

    def cell_place(self, number):
        """The cell's x, y and z."""
        row = number // self.wide
        return (number % self.wide, row % self.deep, row // self.deep)

    def has_cell(self, x, y, z):
        return 0 <= x < self.wide and 0 <= y < self.deep and 0 <= z < self.high


class Body:
    """A grid, and of each cell by its number 1 if it is of the body, 0 if not."""

    def __init__(self, grid, marks):
        self.grid = grid
        self.marks = marks

    def mark_at(self, x, y, z):
        """The cell's mark; places outside of the grid aren't of the body."""
        if not self.grid.has_cell(x, y, z):
            return 0
        return self.marks[self.grid.cell_number(x, y, z)]


def is_side(number):
    """Whether a grid may be so wide, deep or high."""
    return 1 <= number <= GREATEST_SIDE


def bit_bytes(count):
    """How many bytes hold that many bits."""
    return (count + 7) // 8


def read_grid(b):
    """The grid that the bytes begin with; raises BodyFault if they don't, or if their length doesn't fit it."""
    if len(b) < HEAD or tuple(b[:len(MARK)]) != MARK:
        raise BodyFault(WRONG_FRAME, 0)
    for place in range(len(MARK), HEAD):
        if not is_side(b[place]):
            raise BodyFault(WRONG_SIDE, place)
    grid = Grid(b[4], b[5], b[6])
    if len(b) != HEAD + bit_bytes(grid.cell_count()):
        raise BodyFault(WRONG_FRAME, len(MARK))
    return grid


def read_body(b):
    """The body of those bytes; raises BodyFault if they are none's."""
    grid = read_grid(b)
    bits = [(b[HEAD + k // 8] >> (k % 8)) & 1 for k in range(8 * bit_bytes(grid.cell_count()))]
    if any(bits[grid.cell_count():]):
        raise BodyFault(WRONG_BIT, len(b) - 1)
    return Body(grid, bits[:grid.cell_count()])


def bytes_of(body):
    """The bytes of the body."""
    packed = [0] * bit_bytes(body.grid.cell_count())
    for number, mark in enumerate(body.marks):
        packed[number // 8] += mark << (number % 8)
    return list(MARK) + [body.grid.wide, body.grid.deep, body.grid.high] + packed


def is_same_grid(grid, other):
    return (grid.wide, grid.deep, grid.high) == (other.wide, other.deep, other.high)


def combined_mark(first, second, how):
    """The mark of a cell that has these marks in two bodies."""
    if how == OF_EITHER:
        return first | second
    if how == OF_BOTH:
        return first & second
    if how == OF_FIRST_ALONE:
        return first & (1 - second)
    return first ^ second


def combined_body(first, second, how):
    """The body of two of the same grid; how is from OF_EITHER to OF_JUST_ONE."""
    return Body(first.grid, [combined_mark(mark, other, how) for mark, other in zip(first.marks, second.marks)])
