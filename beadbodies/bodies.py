"""The calls, each answering one list: a number; how many bytes, and they; how many numbers, and they."""

from beadbodies.meshes import MeshFault, first_odd_side, measures, read_mesh

MOST_BYTES = 16384

TOO_LONG = -2
NONE_SUCH = -6


def answer(number, told, numbers):
    """The list that a call gives back: told are the bytes told, numbers the numbers told."""
    return [number, len(told)] + told + [len(numbers)] + numbers


def refusal(number):
    """A refusal with which nothing is told."""
    return answer(number, [], [])


def judge(t):
    """Whether t is a mesh's text, or the place where it is at fault."""
    if len(t) > MOST_BYTES:
        return refusal(TOO_LONG)
    try:
        read_mesh(t)
    except MeshFault as fault:
        return answer(NONE_SUCH, [], [fault.place])
    return answer(0, [], [])


def size(t):
    """How many corners and triangles the mesh has, and how far its corners reach."""
    if len(t) > MOST_BYTES:
        return refusal(TOO_LONG)
    try:
        mesh = read_mesh(t)
    except MeshFault:
        return refusal(NONE_SUCH)
    return answer(0, [], measures(mesh))


def open_side(t):
    """Whether the mesh is closed, or else the first side that is of an odd number of triangles."""
    if len(t) > MOST_BYTES:
        return refusal(TOO_LONG)
    try:
        mesh = read_mesh(t)
    except MeshFault:
        return refusal(NONE_SUCH)
    side = first_odd_side(mesh)
    if side is None:
        return answer(0, [], [])
    return answer(1, [], list(side))
