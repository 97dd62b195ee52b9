"""What the tests share: texts of meshes, and where a text is at fault, found by trying what could follow.

The faults are found in another way than the program's: a beginning of a text is good if some whole line
begins like its last, unfinished one. For a triangle's line all lines there are get written out.
"""

import functools
import itertools
import re

NUMBER = "(0|[1-9][0-9]*)"
CORNER_LINE = re.compile(f"v {NUMBER} {NUMBER} {NUMBER}\n")
# Whatever digits of a coordinate are good are a coordinate themselves, so these tails are enough.
CORNER_TAILS = ["v 0 0 0\n", " 0 0 0\n", "0 0 0\n", " 0 0\n", "0 0\n", " 0\n", "0\n", "\n"]

TETRAHEDRON = [(0, 1, 2), (0, 1, 3), (0, 2, 3), (1, 2, 3)]


def signs(text):
    return list(text.encode("latin-1"))


def mesh_text(corners, triangles):
    lines = ["v %d %d %d\n" % tuple(corner) for corner in corners]
    lines += ["t %d %d %d\n" % tuple(triangle) for triangle in triangles]
    return "".join(lines)


def corner_lines(count):
    return mesh_text([(k, 2 * k, 3 * k) for k in range(count)], [])


def is_corner_line(line):
    match = CORNER_LINE.fullmatch(line)
    return match is not None and all(int(number) <= 65535 for number in match.groups())


@functools.lru_cache(maxsize=None)
def triangle_lines(corners):
    return frozenset("t %d %d %d\n" % three for three in itertools.permutations(range(corners), 3))


@functools.lru_cache(maxsize=None)
def triangle_beginnings(corners):
    return frozenset(line[:end] for line in triangle_lines(corners) for end in range(1, len(line)))


def count_lines(lines):
    """How many corners and triangles whole lines tell, or None if no mesh's text begins with them."""
    corners = 0
    triangles = 0
    for line in lines:
        if is_corner_line(line) and triangles == 0 and corners < 64:
            corners += 1
        elif line in triangle_lines(corners) and triangles < 128:
            triangles += 1
        else:
            return None
    return corners, triangles


def begins_mesh(text):
    lines = re.findall("[^\n]*\n", text)
    rest = text[len("".join(lines)):]
    counts = count_lines(lines)
    if counts is None:
        return False
    corners, triangles = counts
    if rest == "":
        return True
    if rest in triangle_beginnings(corners) and triangles < 128:
        return True
    return triangles == 0 and corners < 64 and any(is_corner_line(rest + tail) for tail in CORNER_TAILS)


def is_mesh(text):
    return (text == "" or text.endswith("\n")) and begins_mesh(text)


def fault_place(text):
    """The first place where no mesh's text goes on; None of a mesh's text."""
    if is_mesh(text):
        return None
    for place in range(len(text)):
        if not begins_mesh(text[:place + 1]):
            return place
    return len(text)
