"""Meshes: their texts, how far they reach, whether they close, how they are put together and turned."""

MOST_CORNERS = 64
MOST_TRIANGLES = 128
GREATEST_COORDINATE = 65535
GREATEST_TURN = 23

# How often a mesh is turned about x, and about y, by k // 4.
TURNS_ABOUT_X = (0, 1, 2, 3, 0, 0)
TURNS_ABOUT_Y = (0, 0, 0, 0, 1, 3)

LINE_END = 10
BLANK = 32
NOUGHT = 48
NINE = 57
TRIANGLE_SIGN = 116
CORNER_SIGN = 118


class MeshFault(ValueError):
    """A text that is no mesh's; place is where it is at fault."""

    def __init__(self, place):
        self.place = place


class Mesh:
    """Corners as (x, y, z), triangles as three corners' numbers."""

    def __init__(self, corners, triangles):
        self.corners = corners
        self.triangles = triangles


class Reader:
    """A text's bytes, and the place up to which they are read."""

    def __init__(self, signs):
        self.signs = signs
        self.place = 0

    def at_end(self):
        return self.place == len(self.signs)

    def sees(self, sign):
        return not self.at_end() and self.signs[self.place] == sign

    def sees_digit(self):
        return not self.at_end() and NOUGHT <= self.signs[self.place] <= NINE

    def skip(self, sign):
        if not self.sees(sign):
            raise MeshFault(self.place)
        self.place += 1


def begins_number(value, greatest, taken):
    """Whether a number from 0 to greatest that is not taken is value, or has its digits in front."""
    if value > greatest:
        return False
    if value not in taken:
        return True
    # No number but nought itself begins with a nought, so only others may go on.
    return value > 0 and any([begins_number(value * 10 + digit, greatest, taken) for digit in range(10)])


def read_digit(reader, tens, greatest, taken):
    """The value of the digits read so far (tens) and of the digit that follows them."""
    if not reader.sees_digit():
        raise MeshFault(reader.place)
    value = tens + reader.signs[reader.place] - NOUGHT
    # A digit is at fault as soon as no allowed number has it there, not when the number ends.
    if not begins_number(value, greatest, taken):
        raise MeshFault(reader.place)
    reader.place += 1
    return value


def read_number(reader, greatest, taken):
    """A number from 0 to greatest that is none of taken."""
    value = read_digit(reader, 0, greatest, taken)
    # Behind a nought in front no digit may follow: what follows is left to the line.
    while value > 0 and reader.sees_digit():
        value = read_digit(reader, value * 10, greatest, taken)
    # A taken number may have been the beginning of a longer one that never came.
    if value in taken:
        raise MeshFault(reader.place)
    return value


def read_line(reader, sign, greatest, differ):
    """The three numbers of a line, which must differ from each other if differ says so."""
    reader.skip(sign)
    numbers = []
    while len(numbers) < 3:
        reader.skip(BLANK)
        taken = numbers if differ else []
        numbers.append(read_number(reader, greatest, taken))
    reader.skip(LINE_END)
    return tuple(numbers)


def takes_corner(mesh):
    """Whether another corner's line may follow."""
    return len(mesh.corners) < MOST_CORNERS and len(mesh.triangles) == 0


def takes_triangle(mesh):
    """Whether another triangle's line may follow."""
    # With fewer than three corners no triangle has three different ones, so its very sign is at fault.
    return len(mesh.corners) >= 3 and len(mesh.triangles) < MOST_TRIANGLES


def read_mesh(signs):
    """The mesh of that text; raises MeshFault if it is none's."""
    mesh = Mesh([], [])
    reader = Reader(signs)
    while not reader.at_end():
        if reader.sees(CORNER_SIGN) and takes_corner(mesh):
            mesh.corners.append(read_line(reader, CORNER_SIGN, GREATEST_COORDINATE, False))
        elif reader.sees(TRIANGLE_SIGN) and takes_triangle(mesh):
            mesh.triangles.append(read_line(reader, TRIANGLE_SIGN, len(mesh.corners) - 1, True))
        else:
            raise MeshFault(reader.place)
    return mesh


def along(corners, axis):
    """The corners' coordinates of one axis."""
    return [corner[axis] for corner in corners]


def measures(mesh):
    """How many corners and triangles, then the least x, y, z and the greatest of the corners."""
    least = [min(along(mesh.corners, axis), default=0) for axis in range(3)]
    greatest = [max(along(mesh.corners, axis), default=0) for axis in range(3)]
    return [len(mesh.corners), len(mesh.triangles)] + least + greatest


def sides(triangle):
    """The triangle's three sides, the lesser corner of each in front."""
    # Sorted, so that a side is the same pair whichever triangle it is told by.
    corners = sorted(triangle)
    return [(corners[0], corners[1]), (corners[0], corners[2]), (corners[1], corners[2])]


def first_odd_side(mesh):
    """The first side that is of an odd number of triangles; None if the mesh is closed."""
    counts = {}
    for triangle in mesh.triangles:
        for side in sides(triangle):
            counts[side] = counts.get(side, 0) + 1
    return min([side for side in counts if counts[side] % 2 == 1], default=None)


def line_of(letter, numbers):
    """A line of a mesh's text."""
    return " ".join([letter] + [str(number) for number in numbers]) + "\n"


def text_of(mesh):
    """The bytes of the mesh's text."""
    lines = [line_of("v", corner) for corner in mesh.corners]
    lines.extend([line_of("t", triangle) for triangle in mesh.triangles])
    return [ord(sign) for sign in "".join(lines)]


def raised(triangle, by):
    """The triangle with its corners' numbers raised."""
    return tuple([corner + by for corner in triangle])


def put_together(first, second):
    """One mesh of the two; None if it has more corners or triangles than a mesh may have."""
    corners = first.corners + second.corners
    triangles = first.triangles + [raised(triangle, len(first.corners)) for triangle in second.triangles]
    if len(corners) > MOST_CORNERS or len(triangles) > MOST_TRIANGLES:
        return None
    return Mesh(corners, triangles)


def turned_about_x(corner):
    return (corner[0], GREATEST_COORDINATE - corner[2], corner[1])


def turned_about_y(corner):
    return (corner[2], corner[1], GREATEST_COORDINATE - corner[0])


def turned_about_z(corner):
    return (GREATEST_COORDINATE - corner[1], corner[0], corner[2])


def turned_corner(corner, k):
    """Where the corner goes when the mesh is turned by k."""
    for turn in range(TURNS_ABOUT_X[k // 4]):
        corner = turned_about_x(corner)
    for turn in range(TURNS_ABOUT_Y[k // 4]):
        corner = turned_about_y(corner)
    for turn in range(k % 4):
        corner = turned_about_z(corner)
    return corner


def turned_mesh(mesh, k):
    """The mesh turned by k, from 0 to GREATEST_TURN."""
    return Mesh([turned_corner(corner, k) for corner in mesh.corners], mesh.triangles)
