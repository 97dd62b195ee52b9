import random
import unittest

from beadbodies.bodies import judge, open_side, turned
from tests.oracle import (GREATEST, NONE_SUCH, OUT_OF_RANGE, TETRAHEDRON, TEXTS_AT_FAULT, TOO_LONG, box, mesh_signs,
                          signs, told_bytes, told_mesh)

M = 65535

# Where (1, 20, 300) goes by each k, worked out by hand from the words.
WORKED_OUT = [
    (1, 20, 300), (M - 20, 1, 300), (M - 1, M - 20, 300), (20, M - 1, 300),
    (1, M - 300, 20), (300, 1, 20), (M - 1, 300, 20), (M - 300, M - 1, 20),
    (1, M - 20, M - 300), (20, 1, M - 300), (M - 1, 20, M - 300), (M - 20, M - 1, M - 300),
    (1, 300, M - 20), (M - 300, 1, M - 20), (M - 1, M - 300, M - 20), (300, M - 1, M - 20),
    (300, 20, M - 1), (M - 20, 300, M - 1), (M - 300, M - 20, M - 1), (20, M - 300, M - 1),
    (M - 300, 20, 1), (M - 20, M - 300, 1), (300, M - 20, 1), (20, 300, 1)]


def turned_corners(k, corners):
    return told_mesh(turned(k, mesh_signs((corners, []))))[0]


def reckoned(k, corner):
    """The corner's way by the row of k that was worked out by hand."""
    ways = {1: (0, False), M - 1: (0, True), 20: (1, False), M - 20: (1, True), 300: (2, False), M - 300: (2, True)}
    return tuple(M - corner[axis] if back else corner[axis] for axis, back in (ways[n] for n in WORKED_OUT[k]))


class Turned(unittest.TestCase):
    def test_written_out(self):
        text = signs("v 1 20 300\nv 0 0 0\nv 65535 65535 65535\nt 2 0 1\n")
        told = signs("v 65515 1 300\nv 65535 0 0\nv 0 65535 65535\nt 2 0 1\n")
        self.assertEqual(turned(1, text), [len(told), len(told)] + told + [0])
        told = signs("v 1 65235 20\nv 0 65535 0\nv 65535 0 65535\nt 2 0 1\n")
        self.assertEqual(turned(4, text), [len(told), len(told)] + told + [0])
        told = signs("v 300 20 65534\nv 0 0 65535\nv 65535 65535 0\nt 2 0 1\n")
        self.assertEqual(turned(16, text), [len(told), len(told)] + told + [0])

    def test_each_k_at_three_different_numbers(self):
        for k in range(24):
            self.assertEqual(turned_corners(k, [(1, 20, 300)]), [WORKED_OUT[k]], k)

    def test_all_24_are_different_and_none_mirrors(self):
        corners = [(10, 20, 30), (11, 20, 30), (10, 21, 30), (10, 20, 31)]
        seen = set()
        for k in range(24):
            first, *ends = turned_corners(k, corners)
            a, b, c = [[m - n for m, n in zip(end, first)] for end in ends]
            self.assertEqual([a[1] * b[2] - a[2] * b[1], a[2] * b[0] - a[0] * b[2], a[0] * b[1] - a[1] * b[0]], c)
            seen.add((first, *ends))
        self.assertEqual(len(seen), 24)

    def test_each_k_at_the_ends(self):
        corners = [(x, y, z) for x in (0, M) for y in (0, M) for z in (0, M)]
        for k in range(24):
            told = turned_corners(k, corners)
            self.assertEqual(told, [reckoned(k, corner) for corner in corners])
            self.assertEqual(sorted(told), corners)

    def test_random_meshes_read_back(self):
        chance = random.Random(7)
        for turn in range(8):
            for k in range(24):
                count = chance.randrange(3, 65)
                corners = [tuple(chance.choice([0, M, chance.randrange(65536)]) for axis in range(3))
                           for corner in range(count)]
                triangles = [tuple(chance.sample(range(count), 3)) for three in range(chance.randrange(129))]
                answer = turned(k, mesh_signs((corners, triangles)))
                self.assertEqual(told_mesh(answer), ([reckoned(k, corner) for corner in corners], triangles))
                self.assertEqual(judge(told_bytes(answer)), [0, 0, 0])

    def test_without_corners(self):
        for k in range(24):
            self.assertEqual(turned(k, []), [0, 0, 0])

    def test_k_0_is_the_text_itself(self):
        for mesh in (([(3, 4, 5)], []), box((1, 2, 3), (40, 50, 60))):
            text = mesh_signs(mesh)
            self.assertEqual(turned(0, text), [len(text), len(text)] + text + [0])

    def test_turned_four_times_is_the_text_itself(self):
        text = mesh_signs(box((1, 20, 300), (4000, 50000, 65535)))
        for k in (1, 3, 4, 12, 16, 20):
            told = text
            for turn in range(4):
                told = told_bytes(turned(k, told))
            self.assertEqual(told, text, k)

    def test_closed_stays_closed(self):
        for k in range(24):
            told = told_bytes(turned(k, mesh_signs(box((1, 2, 3), (4, 5, 6)))))
            self.assertEqual(open_side(told), [0, 0, 0])


class Refusals(unittest.TestCase):
    def test_k_above_23(self):
        text = mesh_signs(([(k, k, k) for k in range(4)], TETRAHEDRON))
        self.assertGreater(turned(23, text)[0], 0)
        for k in (24, 25, 47, 48, 255, 2 ** 32, 2 ** 63, GREATEST):
            self.assertEqual(turned(k, text), OUT_OF_RANGE)
            self.assertEqual(turned(k, []), OUT_OF_RANGE)

    def test_a_fault_ahead_of_k(self):
        for text in TEXTS_AT_FAULT:
            for k in (0, 23, 24, GREATEST):
                self.assertEqual(turned(k, signs(text)), NONE_SUCH)

    def test_too_long_ahead_of_both(self):
        for text in ([0] * 16385, signs("v 1 2 3\n" * 2049), [10] * 16500):
            for k in (0, 24, GREATEST):
                self.assertEqual(turned(k, text), TOO_LONG)
        self.assertEqual(turned(24, [0] * 16384), NONE_SUCH)


if __name__ == "__main__":
    unittest.main()
