import random
import unittest

from beadbodies.bodies import both, judge, size
from tests.oracle import (NONE_SUCH, TETRAHEDRON, TEXTS_AT_FAULT, TOO_LONG, UNFIT, box, corner_lines, mesh_signs,
                          mesh_text, signs, told_bytes, told_mesh, together)

EMPTY = ([], [])
POINTS = ([(1, 2, 3), (1, 2, 3), (65535, 0, 10)], [])
FOUR = ([(0, 0, 0), (9, 0, 0), (0, 9, 0), (0, 0, 9)], TETRAHEDRON)
OPEN = ([(5, 6, 7), (10, 20, 30), (0, 0, 1)], [(2, 0, 1)])
BOX = box((1, 10, 100), (2, 20, 200))
MESHES = (EMPTY, POINTS, FOUR, OPEN, BOX)


def corners_and_triangles(corners, triangles):
    return ([(k, k, k) for k in range(corners)], [(k % (corners - 2), corners - 2, corners - 1)
                                                 for k in range(triangles)])


class Both(unittest.TestCase):
    def expect(self, first, second, answer):
        self.assertEqual(both(signs(first), signs(second)), answer)

    def test_written_out(self):
        text = "v 1 2 3\nv 4 5 6\nv 7 8 9\nt 0 1 2\n"
        other = "v 10 0 0\nv 0 10 0\nv 0 0 10\nt 2 0 1\nt 0 1 2\n"
        told = signs("v 1 2 3\nv 4 5 6\nv 7 8 9\nv 10 0 0\nv 0 10 0\nv 0 0 10\nt 0 1 2\nt 5 3 4\nt 3 4 5\n")
        self.expect(text, other, [len(told), len(told)] + told + [0])

    def test_the_text_of_no_bytes(self):
        self.expect("", "", [0, 0, 0])
        for mesh in MESHES:
            text = mesh_signs(mesh)
            self.assertEqual(both(text, []), [len(text), len(text)] + text + [0])
            self.assertEqual(both([], text), [len(text), len(text)] + text + [0])

    def test_with_and_without_corners_and_triangles(self):
        for first in MESHES:
            for second in MESHES:
                answer = both(mesh_signs(first), mesh_signs(second))
                self.assertEqual(told_mesh(answer), together(first, second))
                self.assertEqual(judge(told_bytes(answer)), [0, 0, 0])

    def test_numbers_of_the_second_are_raised_beyond_one_digit(self):
        first = ([(k, 0, 0) for k in range(9)], [(8, 0, 1)])
        for second in (FOUR, OPEN, BOX):
            self.assertEqual(told_mesh(both(mesh_signs(first), mesh_signs(second))), together(first, second))

    def test_three_put_together_either_way(self):
        for last in MESHES:
            first, second, third = mesh_signs(FOUR), mesh_signs(BOX), mesh_signs(last)
            left = both(told_bytes(both(first, second)), third)
            right = both(first, told_bytes(both(second, third)))
            self.assertEqual(left, right)

    def test_64_and_65_corners(self):
        for first, second in ((64, 0), (0, 64), (63, 1), (1, 63), (32, 32)):
            answer = both(signs(corner_lines(first)), signs(corner_lines(second)))
            self.assertEqual(size(told_bytes(answer))[3:5], [64, 0])
        for first, second in ((64, 1), (1, 64), (63, 2), (33, 32), (64, 64)):
            self.expect(corner_lines(first), corner_lines(second), UNFIT)

    def test_128_and_129_triangles(self):
        for first, second in ((128, 0), (0, 128), (127, 1), (1, 127), (64, 64)):
            meshes = corners_and_triangles(32, first), corners_and_triangles(32, second)
            answer = both(*map(mesh_signs, meshes))
            self.assertEqual(told_mesh(answer), together(*meshes))
        for first, second in ((128, 1), (1, 128), (65, 64), (128, 128)):
            meshes = corners_and_triangles(32, first), corners_and_triangles(32, second)
            self.assertEqual(both(*map(mesh_signs, meshes)), UNFIT)

    def test_either_number_is_enough_to_refuse(self):
        few = corners_and_triangles(3, 65)
        many = corners_and_triangles(33, 1)
        self.assertEqual(both(mesh_signs(few), mesh_signs(few)), UNFIT)
        self.assertEqual(both(mesh_signs(many), mesh_signs(many)), UNFIT)

    def test_random_meshes(self):
        chance = random.Random(6)
        for turn in range(150):
            meshes = []
            for count in (chance.randrange(3, 40), chance.randrange(3, 40)):
                corners = [tuple(chance.randrange(65536) for axis in range(3)) for corner in range(count)]
                triangles = [tuple(chance.sample(range(count), 3)) for k in range(chance.randrange(80))]
                meshes.append((corners, triangles))
            mesh = together(*meshes)
            answer = both(*map(mesh_signs, meshes))
            if len(mesh[0]) > 64 or len(mesh[1]) > 128:
                self.assertEqual(answer, UNFIT)
            else:
                self.assertEqual(told_mesh(answer), mesh)


class Refusals(unittest.TestCase):
    def test_a_fault_in_the_first_in_the_second_in_both(self):
        good = mesh_signs(FOUR)
        for text in TEXTS_AT_FAULT:
            self.assertEqual(both(signs(text), good), NONE_SUCH)
            self.assertEqual(both(good, signs(text)), NONE_SUCH)
            self.assertEqual(both(signs(text), []), NONE_SUCH)
            self.assertEqual(both([], signs(text)), NONE_SUCH)
            for other in TEXTS_AT_FAULT:
                self.assertEqual(both(signs(text), signs(other)), NONE_SUCH)

    def test_a_fault_ahead_of_too_much(self):
        full = signs(corner_lines(64))
        self.assertEqual(both(full, full), UNFIT)
        self.assertEqual(both(full, full + [0]), NONE_SUCH)
        self.assertEqual(both(full + [0], full), NONE_SUCH)

    def test_too_long_ahead_of_a_fault(self):
        for other in ("", "x", mesh_text(*FOUR), corner_lines(65)):
            for long in ([0] * 16385, [118] * 16500, signs("v 1 2 3\n" * 2049)):
                self.assertEqual(both(long, signs(other)), TOO_LONG)
                self.assertEqual(both(signs(other), long), TOO_LONG)
                self.assertEqual(both(long, long), TOO_LONG)

    def test_16384_bytes_are_looked_into(self):
        for other in ("", "x"):
            self.assertEqual(both([0] * 16384, signs(other)), NONE_SUCH)
            self.assertEqual(both(signs(other), [0] * 16384), NONE_SUCH)
        self.assertEqual(both([0] * 16384, [0] * 16384), NONE_SUCH)

    def test_neither_is_too_long_though_both_together_are(self):
        self.assertEqual(both([0] * 8193, [0] * 8193), NONE_SUCH)


if __name__ == "__main__":
    unittest.main()
