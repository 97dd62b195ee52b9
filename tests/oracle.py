"""What the tests share: meshes and their texts, and what is to be answered, found in another way than the program's.

Faults: a beginning of a text is good if some whole line begins like its last, unfinished one. For a triangle's line
all lines there are get written out.
Inside: the centre is truly shifted, by an e that is small enough, and the ray may go any way.
Bodies: a grid's three numbers and a set of cells (x, y, z); the bits are one long number.
"""

import functools
import itertools
import re

NUMBER = "(0|[1-9][0-9]*)"
CORNER_LINE = re.compile(f"v {NUMBER} {NUMBER} {NUMBER}\n")
# Whatever digits of a coordinate are good are a coordinate themselves, so these tails are enough.
CORNER_TAILS = ["v 0 0 0\n", " 0 0 0\n", "0 0 0\n", " 0 0\n", "0 0\n", " 0\n", "0\n", "\n"]

GREATEST = 18446744073709551615
TOO_LONG = [-2, 0, 0]
NONE_SUCH = [-6, 0, 0]
OUT_OF_RANGE = [-1, 0, 0]
NOT_THERE = [-4, 0, 0]
NOT_OF_BODY = [-5, 0, 0]
UNFIT = [-9, 0, 0]

TEXTS_AT_FAULT = ["x", "v 1 2 3", "v 1 2 65536\n", "t 0 1 2\n", "v 1 2 3\n" * 65, "\n", "v 1 2 3\n" * 2048]

GRIDS = [(1, 1, 1), (12, 1, 1), (1, 12, 1), (1, 1, 12), (2, 3, 4), (4, 2, 3), (5, 5, 1), (3, 3, 3), (7, 1, 9),
         (8, 2, 1), (5, 6, 7), (12, 11, 10), (12, 12, 12)]

# Bytes that are no body's, each kind of fault among them.
BYTES_AT_FAULT = [[], [0], [66, 68, 66, 49, 1, 1], [66, 68, 66, 50, 1, 1, 1, 1], [66, 68, 66, 49, 0, 1, 1, 1],
                  [66, 68, 66, 49, 1, 13, 1, 1], [66, 68, 66, 49, 1, 1, 0, 1], [66, 68, 66, 49, 1, 1, 1],
                  [66, 68, 66, 49, 1, 1, 1, 1, 0], [66, 68, 66, 49, 1, 1, 1, 2], [66, 68, 66, 49, 3, 3, 3] + [255] * 4,
                  [66, 68, 66, 49, 12, 12, 12] + [0] * (16384 - 7)]

TETRAHEDRON = [(0, 1, 2), (0, 1, 3), (0, 2, 3), (1, 2, 3)]
# Corner k of a box has its greater x if k & 1, its greater y if k & 2, its greater z if k & 4.
BOX_FACES = [(0, 1, 3, 2), (4, 5, 7, 6), (0, 1, 5, 4), (2, 3, 7, 6), (0, 2, 6, 4), (1, 3, 7, 5)]
BOX_TRIANGLES = [three for a, b, c, d in BOX_FACES for three in ((a, b, c), (a, c, d))]

# All lengths are taken so often that even the shift in z is a whole number.
E_PARTS = 10 ** 24
SCALE = 2 * E_PARTS ** 3
# No side of a mesh goes any of these ways: they are longer than its corners reach.
RAY_WAYS = [(1000003, 999983, 65537), (-1000003, 65537, 999983), (65539, -999983, -1000003), (-99991, -99989, 65543)]


def signs(text):
    return list(text.encode("latin-1"))


def mesh_text(corners, triangles):
    lines = ["v %d %d %d\n" % tuple(corner) for corner in corners]
    lines += ["t %d %d %d\n" % tuple(triangle) for triangle in triangles]
    return "".join(lines)


def corner_lines(count):
    return mesh_text([(k, 2 * k, 3 * k) for k in range(count)], [])


def is_corner_line(line):
    match = CORNER_LINE.fullmatch(line)
    return match is not None and all(int(number) <= 65535 for number in match.groups())


@functools.lru_cache(maxsize=None)
def triangle_lines(corners):
    return frozenset("t %d %d %d\n" % three for three in itertools.permutations(range(corners), 3))


@functools.lru_cache(maxsize=None)
def triangle_beginnings(corners):
    return frozenset(line[:end] for line in triangle_lines(corners) for end in range(1, len(line)))


def count_lines(lines):
    """How many corners and triangles whole lines tell, or None if no mesh's text begins with them."""
    corners = 0
    triangles = 0
    for line in lines:
        if is_corner_line(line) and triangles == 0 and corners < 64:
            corners += 1
        elif line in triangle_lines(corners) and triangles < 128:
            triangles += 1
        else:
            return None
    return corners, triangles


def begins_mesh(text):
    lines = re.findall("[^\n]*\n", text)
    rest = text[len("".join(lines)):]
    counts = count_lines(lines)
    if counts is None:
        return False
    corners, triangles = counts
    if rest == "":
        return True
    if rest in triangle_beginnings(corners) and triangles < 128:
        return True
    return triangles == 0 and corners < 64 and any(is_corner_line(rest + tail) for tail in CORNER_TAILS)


def is_mesh(text):
    return (text == "" or text.endswith("\n")) and begins_mesh(text)


def fault_place(text):
    """The first place where no mesh's text goes on; None of a mesh's text."""
    if is_mesh(text):
        return None
    for place in range(len(text)):
        if not begins_mesh(text[:place + 1]):
            return place
    return len(text)


class Guarded(list):
    """A list that may not be changed, not for a while either."""

    def refuse(self, *given):
        raise AssertionError("changed")

    __setitem__ = __delitem__ = __iadd__ = __imul__ = refuse
    append = extend = insert = pop = remove = clear = sort = reverse = refuse


def mesh_signs(mesh):
    return signs(mesh_text(*mesh))


def told_bytes(answer):
    """The bytes that an answer tells, its form looked at on the way."""
    if [type(number) for number in answer] != [int] * len(answer):
        raise AssertionError("not whole numbers alone")
    count = answer[0]
    if len(answer) != count + 3 or answer[1] != count or answer[-1] != 0:
        raise AssertionError(answer)
    return answer[2:-1]


def told_mesh(answer):
    """The corners and triangles that an answer's text tells."""
    text = bytes(told_bytes(answer)).decode("latin-1")
    if not is_mesh(text):
        raise AssertionError(text)
    lines = [line.split(" ") for line in text.splitlines()]
    return tuple([tuple(int(number) for number in line[1:]) for line in lines if line[0] == letter]
                 for letter in "vt")


def box(low, high):
    ends = (low, high)
    return ([tuple(ends[k >> axis & 1][axis] for axis in range(3)) for k in range(8)], list(BOX_TRIANGLES))


def tetrahedron(*corners):
    return (list(corners), list(TETRAHEDRON))


def together(first, second):
    by = len(first[0])
    return (first[0] + second[0], first[1] + [tuple(k + by for k in three) for three in second[1]])


def random_closed(chance, most, count, bodies):
    """Tetrahedrons over shared corners, so that sides and whole triangles are of several of them."""
    corners = [tuple(chance.randrange(most + 1) for axis in range(3)) for corner in range(count)]
    triangles = []
    for body in range(bodies):
        chosen = chance.sample(range(count), 4)
        triangles += [tuple(chance.sample([chosen[k] for k in three], 3)) for three in TETRAHEDRON]
    chance.shuffle(triangles)
    return (corners, triangles)


def shifted_centre(c, x, y, z):
    half = SCALE // 2
    return ((2 * x + 1) * c * half + 2 * E_PARTS ** 2, (2 * y + 1) * c * half + 2 * E_PARTS,
            (2 * z + 1) * c * half + 2)


def less(a, b):
    return tuple(m - n for m, n in zip(a, b))


def dot(a, b):
    return sum(m * n for m, n in zip(a, b))


def cross(a, b):
    return (a[1] * b[2] - a[2] * b[1], a[2] * b[0] - a[0] * b[2], a[0] * b[1] - a[1] * b[0])


def is_hit(a, b, c, p, way):
    """Whether the ray from p goes through the triangle; p is never on it, nor the ray on a side."""
    normal = cross(less(b, a), less(c, a))
    if normal == (0, 0, 0):
        return False
    a, b, c = less(a, p), less(b, p), less(c, p)
    turns = [dot(way, cross(m, n)) for m, n in ((a, b), (b, c), (c, a))]
    if 0 in turns or dot(normal, a) == 0:
        raise AssertionError("not generic")
    if min(turns) < 0 < max(turns):
        return False
    return (dot(normal, a) > 0) == (dot(normal, way) > 0)


def is_inside(mesh, c, x, y, z, way=RAY_WAYS[0]):
    p = shifted_centre(c, x, y, z)
    corners = [tuple(number * SCALE for number in corner) for corner in mesh[0]]
    return sum(is_hit(*[corners[k] for k in three], p, way) for three in mesh[1]) % 2


def all_cells(grid):
    """All cells of a grid by their numbers."""
    return [(x, y, z) for z in range(grid[2]) for y in range(grid[1]) for x in range(grid[0])]


def body_signs(grid, cells):
    bits = sum(1 << number for number, cell in enumerate(all_cells(grid)) if cell in cells)
    count = grid[0] * grid[1] * grid[2]
    return [0x42, 0x44, 0x42, 0x31, *grid, *bits.to_bytes(-(-count // 8), "little")]


def read_signs(b):
    """The grid and the cells of a body's bytes."""
    grid = tuple(b[4:7])
    bits = int.from_bytes(bytes(b[7:]), "little")
    return grid, {cell for number, cell in enumerate(all_cells(grid)) if bits >> number & 1}


def body_fault(b):
    """Kind and place of the first fault, None of a body's bytes."""
    if bytes(b[:4]) != b"BDB1" or len(b) < 7:
        return [1, 0]
    for place in (4, 5, 6):
        if b[place] == 0 or b[place] > 12:
            return [2, place]
    if body_signs(*read_signs(b)) == list(b):
        return None
    count = b[4] * b[5] * b[6]
    return [3, len(b) - 1] if count <= 8 * (len(b) - 7) < count + 8 else [1, 4]


def told_body(answer):
    """The grid and the cells of the body that an answer tells."""
    b = told_bytes(answer)
    if body_fault(b) is not None:
        raise AssertionError(b)
    return read_signs(b)


def are_neighbours(cell, other):
    return sum(abs(m - n) for m, n in zip(cell, other)) == 1


def joined(cells):
    """The pieces of cells, the one with the least cell first."""
    pieces = []
    for cell in sorted(cells, key=lambda cell: cell[::-1]):
        near = [piece for piece in pieces if any(are_neighbours(cell, other) for other in piece)]
        pieces = [piece for piece in pieces if piece not in near] + [{cell}.union(*near)]
    return sorted(pieces, key=lambda piece: min(cell[::-1] for cell in piece))


def random_cells(chance, grid, share):
    return {cell for cell in all_cells(grid) if chance.random() < share}


def near_places(cell, q):
    """All places of the cell's layer, beyond the grid too, that are near by q."""
    reach = range(-int(q ** 0.5) - 1, int(q ** 0.5) + 2)
    return {(cell[0] + dx, cell[1] + dy, cell[2]) for dx in reach for dy in reach if dx ** 2 + dy ** 2 <= q}


def grown_cells(grid, cells, q):
    places = set().union(*[near_places(cell, q) for cell in cells])
    return places & set(all_cells(grid))


def shrunk_cells(cells, q):
    return {cell for cell in cells if near_places(cell, q) <= cells}


def filled_cells(grid, cells):
    """The body and those pieces of the rest that have no cell at the border."""
    border = {cell for cell in all_cells(grid) if any(n in (0, side - 1) for n, side in zip(cell, grid))}
    hollows = [piece for piece in joined(set(all_cells(grid)) - cells) if not piece & border]
    return cells.union(*hollows)


def drawing(grid, cells, z):
    lines = ["".join("#" if (x, y, z) in cells else "." for x in range(grid[0])) for y in range(grid[1])]
    return signs("".join(line + "\n" for line in lines))
