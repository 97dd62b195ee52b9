"""Whether the centres of cells lie inside a closed mesh: how many triangles a ray from a centre meets.

All lengths are doubled, so that centres are whole numbers. A centre is taken as shifted by e in x, e e in y and
e e e in z, e being as small as one likes: where its own place decides nothing, what e is multiplied with decides,
then what e e is multiplied with, then what e e e is multiplied with.
"""

# The axis that a look goes along, and whether to greater (1) or to lesser (-1) numbers of it.
LOOK_AXES = (2, 2, 0, 0, 1, 1)
LOOK_WAYS = (1, -1, 1, -1, 1, -1)
# The two axes across each axis, the one with the greater shift in front.
AXES_ACROSS = ((1, 2), (0, 2), (0, 1))

GREATEST_LOOK = 5
UP = 0


def centre_of(c, x, y, z):
    """The centre of cell (x, y, z) of pitch c, doubled."""
    return ((2 * x + 1) * c, (2 * y + 1) * c, (2 * z + 1) * c)


def doubled(corner):
    return (2 * corner[0], 2 * corner[1], 2 * corner[2])


def doubled_triangles(mesh):
    """Each triangle as its three corners, doubled."""
    corners = [doubled(corner) for corner in mesh.corners]
    return [(corners[triangle[0]], corners[triangle[1]], corners[triangle[2]]) for triangle in mesh.triangles]


def first_sign(numbers):
    """The sign of the first number that isn't 0; 0 if there is none."""
    for number in numbers:
        if number > 0:
            return 1
        if number < 0:
            return -1
    return 0


def side_sign(a, b, p, u, v):
    """On which side of a to b the shifted p is, seen along the axis that u and v lie across; 0 if a hides b."""
    du = b[u] - a[u]
    dv = b[v] - a[v]
    return first_sign((du * (p[v] - a[v]) - dv * (p[u] - a[u]), -dv, du))


def is_crossed(triangle, p, axis):
    """Whether the line through the shifted p along the axis goes through the triangle."""
    u = AXES_ACROSS[axis][0]
    v = AXES_ACROSS[axis][1]
    sign = side_sign(triangle[0], triangle[1], p, u, v)
    if sign == 0 or side_sign(triangle[1], triangle[2], p, u, v) != sign:
        return False
    return side_sign(triangle[2], triangle[0], p, u, v) == sign


def difference(a, b):
    return (a[0] - b[0], a[1] - b[1], a[2] - b[2])


def dot(a, b):
    return a[0] * b[0] + a[1] * b[1] + a[2] * b[2]


def cross(a, b):
    return (a[1] * b[2] - a[2] * b[1], a[2] * b[0] - a[0] * b[2], a[0] * b[1] - a[1] * b[0])


def is_ahead(triangle, p, look):
    """Whether a triangle that the line along the look goes through lies ahead of the shifted p."""
    normal = cross(difference(triangle[1], triangle[0]), difference(triangle[2], triangle[0]))
    side = first_sign((dot(normal, difference(p, triangle[0])),) + normal)
    return side * first_sign((normal[LOOK_AXES[look]],)) == -LOOK_WAYS[look]


def crossed_triangles(triangles, p, look):
    return [triangle for triangle in triangles if is_crossed(triangle, p, LOOK_AXES[look])]


def meets_odd(crossed, p, look):
    """Whether an odd number of the crossed triangles is ahead of the shifted p: 1 if so, 0 if not."""
    return len([triangle for triangle in crossed if is_ahead(triangle, p, look)]) % 2


def lies_inside(mesh, p, look):
    """1 if the shifted p lies inside the closed mesh, 0 if not."""
    return meets_odd(crossed_triangles(doubled_triangles(mesh), p, look), p, look)


def numbered_centre(c, grid, number):
    """The centre of the cell of that number, doubled."""
    place = grid.cell_place(number)
    return centre_of(c, place[0], place[1], place[2])


def marks_inside(mesh, c, grid):
    """Of each cell by its number 1 if its centre lies inside the closed mesh, 0 if not."""
    triangles = doubled_triangles(mesh)
    # The line up through a column of cells is the same in all layers, so the lowest one's are asked alone.
    columns = [crossed_triangles(triangles, numbered_centre(c, grid, number), UP)
               for number in range(grid.wide * grid.deep)]
    return [meets_odd(columns[number % len(columns)], numbered_centre(c, grid, number), UP)
            for number in range(grid.cell_count())]
