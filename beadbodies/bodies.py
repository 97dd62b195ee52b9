"""The calls, each answering one list: a number; how many bytes, and they; how many numbers, and they."""

from beadbodies.drawings import DrawingFault, drawing_of, redrawn_body
from beadbodies.growth import GREATEST_REACH, grown_body, shrunk_body
from beadbodies.meshes import GREATEST_TURN, MeshFault
from beadbodies.meshes import first_odd_side, measures, put_together, read_mesh, text_of, turned_mesh
from beadbodies.rays import GREATEST_LOOK, centre_of, lies_inside, marks_inside
from beadbodies.regions import filled_body, piece_count, piece_numbers
from beadbodies.solids import GREATEST_SIDE, OF_JUST_ONE, Body, BodyFault, Grid
from beadbodies.solids import bytes_of, combined_body, is_same_grid, is_side, read_body

MOST_BYTES = 16384
GREATEST_PITCH = 8192

OUT_OF_RANGE = -1
TOO_LONG = -2
NOT_THERE = -4
NOT_OF_BODY = -5
NONE_SUCH = -6
DRAWN_WRONG = -8
UNFIT = -9


def answer(number, told, numbers):
    """The list that a call gives back: told are the bytes told, numbers the numbers told."""
    return [number, len(told)] + told + [len(numbers)] + numbers


def refusal(number):
    """A refusal with which nothing is told."""
    return answer(number, [], [])


def telling(told):
    """The answer of a call that tells bytes."""
    return answer(len(told), told, [])


def is_pitch(c):
    return 1 <= c <= GREATEST_PITCH


def mesh_of(t):
    """The mesh of that text, None if it is none's."""
    try:
        return read_mesh(t)
    except MeshFault:
        return None


def body_of(b):
    """The body of those bytes, None if they are none's."""
    try:
        return read_body(b)
    except BodyFault:
        return None


def judge(t):
    """Whether t is a mesh's text, or the place where it is at fault."""
    if len(t) > MOST_BYTES:
        return refusal(TOO_LONG)
    try:
        read_mesh(t)
    except MeshFault as fault:
        return answer(NONE_SUCH, [], [fault.place])
    return answer(0, [], [])


def size(t):
    """How many corners and triangles the mesh has, and how far its corners reach."""
    if len(t) > MOST_BYTES:
        return refusal(TOO_LONG)
    mesh = mesh_of(t)
    if mesh is None:
        return refusal(NONE_SUCH)
    return answer(0, [], measures(mesh))


def open_side(t):
    """Whether the mesh is closed, or else the first side that is of an odd number of triangles."""
    if len(t) > MOST_BYTES:
        return refusal(TOO_LONG)
    mesh = mesh_of(t)
    if mesh is None:
        return refusal(NONE_SUCH)
    side = first_odd_side(mesh)
    if side is None:
        return answer(0, [], [])
    return answer(1, [], list(side))


def both(t, s):
    """The text of the two meshes put together."""
    if len(t) > MOST_BYTES or len(s) > MOST_BYTES:
        return refusal(TOO_LONG)
    first = mesh_of(t)
    second = mesh_of(s)
    if first is None or second is None:
        return refusal(NONE_SUCH)
    mesh = put_together(first, second)
    if mesh is None:
        return refusal(UNFIT)
    return telling(text_of(mesh))


def turned(k, t):
    """The text of the mesh turned by k."""
    if len(t) > MOST_BYTES:
        return refusal(TOO_LONG)
    mesh = mesh_of(t)
    if mesh is None:
        return refusal(NONE_SUCH)
    if k > GREATEST_TURN:
        return refusal(OUT_OF_RANGE)
    return telling(text_of(turned_mesh(mesh, k)))


def inside(c, x, y, z, look, t):
    """Whether the centre of cell (x, y, z) of pitch c lies inside the mesh, seen by that look."""
    if len(t) > MOST_BYTES:
        return refusal(TOO_LONG)
    mesh = mesh_of(t)
    if mesh is None:
        return refusal(NONE_SUCH)
    if first_odd_side(mesh) is not None:
        return refusal(UNFIT)
    if not is_pitch(c) or look > GREATEST_LOOK or max(x, y, z) >= GREATEST_SIDE:
        return refusal(OUT_OF_RANGE)
    return answer(lies_inside(mesh, centre_of(c, x, y, z), look), [], [])


def cells(c, wide, deep, high, t):
    """The bytes of the body of the cells of pitch c whose centres lie inside the mesh."""
    if len(t) > MOST_BYTES:
        return refusal(TOO_LONG)
    mesh = mesh_of(t)
    if mesh is None:
        return refusal(NONE_SUCH)
    if first_odd_side(mesh) is not None:
        return refusal(UNFIT)
    if not is_pitch(c) or not all([is_side(side) for side in (wide, deep, high)]):
        return refusal(OUT_OF_RANGE)
    grid = Grid(wide, deep, high)
    return telling(bytes_of(Body(grid, marks_inside(mesh, c, grid))))


def bodyjudge(b):
    """Whether b is a body's bytes, or the kind and the place of their fault."""
    if len(b) > MOST_BYTES:
        return refusal(TOO_LONG)
    try:
        read_body(b)
    except BodyFault as fault:
        return answer(NONE_SUCH, [], [fault.kind, fault.place])
    return answer(0, [], [])


def bodysize(b):
    """How wide, deep and high the body's grid is, how many cells and pieces it has."""
    if len(b) > MOST_BYTES:
        return refusal(TOO_LONG)
    body = body_of(b)
    if body is None:
        return refusal(NONE_SUCH)
    grid = body.grid
    return answer(0, [], [grid.wide, grid.deep, grid.high, sum(body.marks), piece_count(body)])


def piece(x, y, z, b):
    """The number of the piece that cell (x, y, z) is of."""
    if len(b) > MOST_BYTES:
        return refusal(TOO_LONG)
    body = body_of(b)
    if body is None:
        return refusal(NONE_SUCH)
    if not body.grid.has_cell(x, y, z):
        return refusal(NOT_THERE)
    if body.mark_at(x, y, z) == 0:
        return refusal(NOT_OF_BODY)
    return answer(piece_numbers(body)[body.grid.cell_number(x, y, z)], [], [])


def bodyboth(how, b, d):
    """The bytes of the cells of either body, of both, of the first alone or of just one."""
    if len(b) > MOST_BYTES or len(d) > MOST_BYTES:
        return refusal(TOO_LONG)
    first = body_of(b)
    second = body_of(d)
    if first is None or second is None:
        return refusal(NONE_SUCH)
    if not is_same_grid(first.grid, second.grid):
        return refusal(UNFIT)
    if how > OF_JUST_ONE:
        return refusal(OUT_OF_RANGE)
    return telling(bytes_of(combined_body(first, second, how)))


def grown(q, b):
    """The bytes of the body grown by q."""
    if len(b) > MOST_BYTES:
        return refusal(TOO_LONG)
    body = body_of(b)
    if body is None:
        return refusal(NONE_SUCH)
    if q > GREATEST_REACH:
        return refusal(OUT_OF_RANGE)
    return telling(bytes_of(grown_body(body, q)))


def shrunk(q, b):
    """The bytes of the body shrunk by q."""
    if len(b) > MOST_BYTES:
        return refusal(TOO_LONG)
    body = body_of(b)
    if body is None:
        return refusal(NONE_SUCH)
    if q > GREATEST_REACH:
        return refusal(OUT_OF_RANGE)
    return telling(bytes_of(shrunk_body(body, q)))


def filled(b):
    """The bytes of the body with its hollows filled."""
    if len(b) > MOST_BYTES:
        return refusal(TOO_LONG)
    body = body_of(b)
    if body is None:
        return refusal(NONE_SUCH)
    return telling(bytes_of(filled_body(body)))


def draw(z, b):
    """Layer z's drawing."""
    if len(b) > MOST_BYTES:
        return refusal(TOO_LONG)
    body = body_of(b)
    if body is None:
        return refusal(NONE_SUCH)
    if z >= body.grid.high:
        return refusal(NOT_THERE)
    return telling(drawing_of(body, z))


def read(z, b, t):
    """The bytes of the body with layer z as t draws it, or the place where t is at fault."""
    if len(b) > MOST_BYTES or len(t) > MOST_BYTES:
        return refusal(TOO_LONG)
    body = body_of(b)
    if body is None:
        return refusal(NONE_SUCH)
    if z >= body.grid.high:
        return refusal(NOT_THERE)
    try:
        redrawn = redrawn_body(body, z, t)
    except DrawingFault as fault:
        return answer(DRAWN_WRONG, [], [fault.place])
    return telling(bytes_of(redrawn))
