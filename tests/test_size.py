import random
import unittest

from beadbodies.bodies import size
from tests.oracle import TETRAHEDRON, mesh_text, signs


class Size(unittest.TestCase):
    def expect(self, corners, triangles, numbers):
        self.assertEqual(size(signs(mesh_text(corners, triangles))), [0, 0, 8] + numbers)

    def test_without_corners(self):
        self.expect([], [], [0, 0, 0, 0, 0, 0, 0, 0])

    def test_one_corner(self):
        self.expect([(5, 6, 7)], [], [1, 0, 5, 6, 7, 5, 6, 7])
        self.expect([(65535, 65535, 65535)], [], [1, 0] + [65535] * 6)
        self.expect([(0, 0, 0)], [], [1, 0] + [0] * 6)

    def test_corners_without_triangles(self):
        self.expect([(9, 100, 3), (10, 20, 300)], [], [2, 0, 9, 20, 3, 10, 100, 300])

    def test_each_end_of_another_corner(self):
        corners = [(50, 60, 70), (1, 61, 71), (51, 2, 72), (52, 62, 3), (1000, 63, 73), (53, 2000, 74), (54, 64, 3000)]
        self.expect(corners, [], [7, 0, 1, 2, 3, 1000, 2000, 3000])

    def test_with_triangles(self):
        corners = [(1, 2, 3), (40, 5, 6), (7, 80, 9), (10, 11, 120)]
        self.expect(corners, TETRAHEDRON[:1], [4, 1, 1, 2, 3, 40, 80, 120])
        self.expect(corners, TETRAHEDRON, [4, 4, 1, 2, 3, 40, 80, 120])

    def test_corners_of_no_triangle_count(self):
        corners = [(10, 10, 10)] * 3 + [(0, 65535, 10)]
        self.expect(corners, TETRAHEDRON[:1], [4, 1, 0, 10, 10, 10, 65535, 10])

    def test_the_same_corner_and_triangle_again(self):
        self.expect([(4, 4, 4)] * 3, [(0, 1, 2), (0, 1, 2)], [3, 2, 4, 4, 4, 4, 4, 4])

    def test_the_greatest_mesh(self):
        corners = [(k, 65535 - k, 100 + k) for k in range(64)]
        triangles = [(k % 62, k % 62 + 1, 63) for k in range(128)]
        self.expect(corners, triangles, [64, 128, 0, 65472, 100, 63, 65535, 163])

    def test_random_corners(self):
        chance = random.Random(3)
        for count in range(1, 65):
            corners = [tuple(chance.randrange(65536) for axis in range(3)) for corner in range(count)]
            axes = list(zip(*corners))
            self.expect(corners, [], [count, 0] + [min(axis) for axis in axes] + [max(axis) for axis in axes])

    def test_no_mesh(self):
        for text in ("x", "v 1 2 3", "v 1 2 65536\n", "t 0 1 2\n", "v 1 2 3\n" * 65, "\n"):
            self.assertEqual(size(signs(text)), [-6, 0, 0])


if __name__ == "__main__":
    unittest.main()
