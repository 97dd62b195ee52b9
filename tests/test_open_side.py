import itertools
import random
import unittest

from beadbodies.bodies import open_side
from tests.oracle import TETRAHEDRON, corner_lines, mesh_text, signs

CLOSED = [0, 0, 0]


def first_odd(count, triangles):
    """Every pair of corners in turn, so that the first found is the first there is."""
    for a, b in itertools.combinations(range(count), 2):
        if sum(a in triangle and b in triangle for triangle in triangles) % 2 == 1:
            return [1, 0, 2, a, b]
    return CLOSED


class OpenSide(unittest.TestCase):
    def expect(self, count, triangles, answer):
        text = corner_lines(count) + mesh_text([], triangles)
        self.assertEqual(open_side(signs(text)), answer, triangles)

    def test_without_triangles(self):
        self.expect(0, [], CLOSED)
        self.expect(1, [], CLOSED)
        self.expect(64, [], CLOSED)

    def test_closed(self):
        self.expect(4, TETRAHEDRON, CLOSED)
        self.expect(3, [(0, 1, 2), (2, 1, 0)], CLOSED)
        self.expect(3, [(0, 1, 2), (0, 1, 2)], CLOSED)
        self.expect(5, TETRAHEDRON, CLOSED)

    def test_order_of_corners_and_triangles_says_nothing(self):
        for orders in itertools.product(range(6), repeat=4):
            turned = [list(itertools.permutations(three))[order] for three, order in zip(TETRAHEDRON, orders)]
            self.expect(4, turned, CLOSED)
        for triangles in itertools.permutations(TETRAHEDRON):
            self.expect(4, triangles, CLOSED)
            self.expect(4, triangles[:3], first_odd(4, triangles[:3]))

    def test_one_triangle(self):
        for triangle in itertools.permutations(range(3)):
            self.expect(3, [triangle], [1, 0, 2, 0, 1])
        self.expect(4, [(3, 2, 1)], [1, 0, 2, 1, 2])
        self.expect(64, [(63, 9, 10)], [1, 0, 2, 9, 10])

    def test_a_triangle_left_out(self):
        self.expect(4, TETRAHEDRON[1:], [1, 0, 2, 0, 1])
        self.expect(4, TETRAHEDRON[:1] + TETRAHEDRON[2:], [1, 0, 2, 0, 1])
        self.expect(4, TETRAHEDRON[:2] + TETRAHEDRON[3:], [1, 0, 2, 0, 2])
        self.expect(4, TETRAHEDRON[:3], [1, 0, 2, 1, 2])

    def test_first_by_a_then_b(self):
        self.expect(7, [(4, 5, 6), (1, 2, 3)], [1, 0, 2, 1, 2])
        self.expect(7, [(1, 5, 6), (3, 1, 4)], [1, 0, 2, 1, 3])
        self.expect(7, [(0, 5, 6), (1, 2, 3)], [1, 0, 2, 0, 5])
        self.expect(12, [(0, 10, 11), (0, 2, 9)], [1, 0, 2, 0, 2])
        self.expect(12, [(10, 11, 9), (2, 11, 3)], [1, 0, 2, 2, 3])

    def test_a_side_of_more_than_two_triangles(self):
        self.expect(5, [(0, 1, 2), (0, 1, 3), (0, 1, 4)], [1, 0, 2, 0, 1])
        self.expect(6, [(0, 1, 2), (0, 1, 3), (0, 1, 4), (0, 1, 5)], [1, 0, 2, 0, 2])
        self.expect(3, [(0, 1, 2)] * 3, [1, 0, 2, 0, 1])
        self.expect(3, [(0, 1, 2)] * 4, CLOSED)
        self.expect(3, [(0, 1, 2)] * 127, [1, 0, 2, 0, 1])
        self.expect(3, [(0, 1, 2)] * 128, CLOSED)

    def test_two_bodies_that_share_a_side(self):
        other = [tuple(k + 2 if k > 1 else k for k in three) for three in TETRAHEDRON]
        self.expect(6, TETRAHEDRON + other, CLOSED)
        self.expect(6, TETRAHEDRON + other[1:], [1, 0, 2, 0, 1])
        self.expect(6, TETRAHEDRON + other[:3], [1, 0, 2, 1, 4])

    def test_corners_at_one_spot_are_still_different(self):
        text = "v 1 2 3\n" * 6 + "t 0 1 2\nt 3 4 5\n"
        self.assertEqual(open_side(signs(text)), [1, 0, 2, 0, 1])

    def test_a_closed_part_ahead_of_one_that_is_not(self):
        self.expect(6, [(0, 1, 2), (0, 1, 2), (3, 4, 5)], [1, 0, 2, 3, 4])

    def test_random_meshes(self):
        chance = random.Random(4)
        for turn in range(1500):
            count = chance.randrange(3, 8)
            triangles = [tuple(chance.sample(range(count), 3)) for triangle in range(chance.randrange(12))]
            self.expect(count, triangles, first_odd(count, triangles))

    def test_random_closed_meshes(self):
        chance = random.Random(5)
        for turn in range(200):
            triangles = []
            for body in range(chance.randrange(1, 8)):
                corners = chance.sample(range(64), 4)
                triangles += [tuple(corners[k] for k in three) for three in TETRAHEDRON]
            chance.shuffle(triangles)
            self.expect(64, triangles, CLOSED)
            self.expect(64, triangles[1:], [1, 0, 2] + sorted(triangles[0])[:2])

    def test_no_mesh(self):
        for text in ("x", "v 1 2 3", "v 1 2 65536\n", "t 0 1 2\n", "v 1 2 3\n" * 65, "\n"):
            self.assertEqual(open_side(signs(text)), [-6, 0, 0])


if __name__ == "__main__":
    unittest.main()
