import itertools
import random
import unittest

from beadbodies.bodies import both, inside
from beadbodies.meshes import Mesh
from beadbodies.rays import centre_of, lies_inside
from tests.oracle import (BOX_TRIANGLES, GREATEST, NONE_SUCH, OUT_OF_RANGE, RAY_WAYS, TETRAHEDRON, TEXTS_AT_FAULT,
                          TOO_LONG, UNFIT, box, corner_lines, is_inside, mesh_signs, mesh_text, random_closed, signs,
                          tetrahedron, together, told_bytes)

LOOKS = range(6)
# At pitch 2 the centres are (2x + 1, 2y + 1, 2z + 1): these cells are enough for meshes that reach to 12.
SMALL_CELLS = list(itertools.product(range(6), repeat=3))


def by_all_looks(text, c, x, y, z):
    """What all six looks tell alike, 1 or 0."""
    answers = [inside(c, x, y, z, look, text) for look in LOOKS]
    if answers not in ([[0, 0, 0]] * 6, [[1, 0, 0]] * 6):
        raise AssertionError((c, x, y, z, answers))
    return answers[0][0]


def cells_inside(mesh, c, cells):
    text = mesh_signs(mesh)
    return [cell for cell in cells if by_all_looks(text, c, *cell)]


class InsideCase(unittest.TestCase):
    def expect_like_oracle(self, mesh, c, cells):
        text = mesh_signs(mesh)
        for turn, cell in enumerate(cells):
            expected = is_inside(mesh, c, *cell, RAY_WAYS[turn % len(RAY_WAYS)])
            self.assertEqual(by_all_looks(text, c, *cell), expected, (mesh, c, cell))


class Boxes(InsideCase):
    """The shift goes to greater numbers, so a box holds its lesser faces and not its greater ones."""

    def expect_box(self, low, high, c, cells):
        expected = [cell for cell in cells
                    if all(2 * low[k] <= (2 * cell[k] + 1) * c < 2 * high[k] for k in range(3))]
        self.assertEqual(cells_inside(box(low, high), c, cells), expected, (low, high, c))
        return expected

    def test_faces_between_the_centres(self):
        self.assertEqual(len(self.expect_box((2, 2, 2), (8, 6, 4), 2, SMALL_CELLS)), 3 * 2 * 1)

    def test_faces_through_the_centres(self):
        self.assertEqual(len(self.expect_box((1, 1, 1), (7, 5, 3), 2, SMALL_CELLS)), 3 * 2 * 1)
        self.assertEqual(len(self.expect_box((3, 1, 2), (5, 9, 7), 2, SMALL_CELLS)), 1 * 4 * 2)

    def test_random_boxes(self):
        chance = random.Random(8)
        for turn in range(12):
            ends = [sorted(chance.sample(range(12), 2)) for axis in range(3)]
            self.expect_box([end[0] for end in ends], [end[1] for end in ends], chance.choice([1, 2, 3]),
                            chance.sample(SMALL_CELLS, 80))

    def test_the_greatest_box(self):
        edges = list(itertools.product((0, 3, 7, 8, 10, 11), repeat=3))
        self.assertEqual(len(self.expect_box((0, 0, 0), (65535, 65535, 65535), 8192, edges)), 3 ** 3)
        self.assertEqual(len(self.expect_box((0, 0, 0), (65535, 65535, 65535), 1, edges)), 6 ** 3)
        self.assertEqual(len(self.expect_box((4096, 4096, 4096), (61440, 61440, 61440), 8192, edges)), 2 ** 3)

    def test_centres_between_whole_numbers(self):
        self.expect_box((0, 0, 0), (1, 1, 1), 1, SMALL_CELLS)
        self.expect_box((1, 2, 3), (4, 5, 6), 1, SMALL_CELLS)
        self.expect_box((1, 2, 3), (9, 8, 7), 3, SMALL_CELLS)


class Sorts(InsideCase):
    def test_without_triangles(self):
        for mesh in (([], []), ([(1, 1, 1)], []), ([(0, 0, 0), (12, 0, 0), (0, 12, 0), (0, 0, 12)], [])):
            self.assertEqual(cells_inside(mesh, 2, SMALL_CELLS[:50]), [])

    def test_tetrahedrons(self):
        for corners in (((0, 0, 0), (12, 0, 0), (0, 12, 0), (0, 0, 12)),
                        ((1, 1, 1), (11, 1, 1), (1, 11, 1), (1, 1, 11)),
                        ((1, 1, 1), (11, 11, 1), (11, 1, 11), (1, 11, 11)),
                        ((0, 5, 2), (12, 3, 1), (6, 12, 7), (4, 4, 11)),
                        ((11, 11, 11), (1, 11, 11), (11, 1, 11), (11, 11, 1))):
            mesh = tetrahedron(*corners)
            self.expect_like_oracle(mesh, 2, SMALL_CELLS)
            found = cells_inside(mesh, 2, SMALL_CELLS)
            self.assertTrue(0 < len(found) < len(SMALL_CELLS))

    def test_a_tetrahedron_written_out(self):
        # x, y and z at least 1 and their sum below 13: what the shift adds takes it out of the slanting face.
        mesh = tetrahedron((1, 1, 1), (11, 1, 1), (1, 11, 1), (1, 1, 11))
        expected = [cell for cell in SMALL_CELLS if sum(cell) < 5]
        self.assertEqual(cells_inside(mesh, 2, SMALL_CELLS), expected)

    def test_a_tetrahedron_that_holds_its_slanting_face(self):
        mesh = tetrahedron((11, 11, 11), (1, 11, 11), (11, 1, 11), (11, 11, 1))
        expected = [cell for cell in SMALL_CELLS if sum(cell) >= 10 and max(cell) < 5]
        self.assertEqual(cells_inside(mesh, 2, SMALL_CELLS), expected)

    def test_one_within_another_is_hollow(self):
        mesh = together(box((0, 0, 0), (12, 12, 12)), box((2, 3, 4), (8, 9, 10)))
        expected = [(x, y, z) for x, y, z in SMALL_CELLS if not (1 <= x <= 3 and 1 <= y <= 3 and 2 <= z <= 4)]
        self.assertEqual(cells_inside(mesh, 2, SMALL_CELLS), expected)

    def test_two_that_lie_apart_touch_or_overlap(self):
        for low, high in (((8, 8, 8), (12, 12, 12)), ((5, 1, 1), (9, 5, 5)), ((5, 5, 5), (9, 9, 9)),
                          ((3, 3, 3), (9, 9, 9)), ((1, 1, 1), (5, 5, 5))):
            mesh = together(box((1, 1, 1), (5, 5, 5)), box(low, high))
            expected = [cell for cell in SMALL_CELLS
                        if all(1 <= 2 * n + 1 < 5 for n in cell)
                        != all(low[k] <= 2 * cell[k] + 1 < high[k] for k in range(3))]
            self.assertEqual(cells_inside(mesh, 2, SMALL_CELLS), expected)

    def test_triangles_told_twice(self):
        corners = [(0, 0, 5), (12, 0, 5), (0, 12, 5), (1, 1, 11)]
        self.assertEqual(cells_inside((corners, [(0, 1, 2)] * 2), 2, SMALL_CELLS), [])
        self.assertEqual(cells_inside((corners, TETRAHEDRON * 2), 2, SMALL_CELLS), [])
        once = cells_inside((corners, TETRAHEDRON), 2, SMALL_CELLS)
        self.assertEqual(cells_inside((corners, TETRAHEDRON * 3), 2, SMALL_CELLS), once)
        self.assertEqual(cells_inside((corners, TETRAHEDRON + [(2, 0, 1)] * 2), 2, SMALL_CELLS), once)

    def test_a_side_of_four_triangles(self):
        corners = [(5, 5, 0), (5, 5, 12), (0, 0, 5), (0, 5, 5), (11, 11, 5), (11, 5, 5)]
        other = [tuple(k + 2 if k > 1 else k for k in three) for three in TETRAHEDRON]
        self.expect_like_oracle((corners, TETRAHEDRON + other), 2, SMALL_CELLS)

    def test_an_octahedron_with_its_tips_at_centres(self):
        tips = [(5, 5, 1), (5, 5, 9), (1, 5, 5), (5, 1, 5), (9, 5, 5), (5, 9, 5)]
        triangles = [(tip, 2 + k, 2 + (k + 1) % 4) for tip in (0, 1) for k in range(4)]
        self.expect_like_oracle((tips, triangles), 2, SMALL_CELLS)

    def test_a_ring(self):
        # Four posts joined to a ring round the middle, by corners that go round it inside and outside.
        ring = [(x, y, z) for z in (1, 5) for x, y in ((1, 1), (11, 1), (11, 11), (1, 11),
                                                       (5, 5), (7, 5), (7, 7), (5, 7))]
        triangles = []
        for k in range(4):
            n = (k + 1) % 4
            for a, b, c, d in ((k, n, n + 4, k + 4), (k + 8, n + 8, n + 12, k + 12),
                               (k, n, n + 8, k + 8), (k + 4, n + 4, n + 12, k + 12)):
                triangles += [(a, b, c), (a, c, d)]
        self.expect_like_oracle((ring, triangles), 2, SMALL_CELLS)
        self.assertEqual(by_all_looks(mesh_signs((ring, triangles)), 2, 2, 2, 1), 0)
        self.assertEqual(by_all_looks(mesh_signs((ring, triangles)), 2, 1, 2, 1), 1)


class CentresOnTheMesh(InsideCase):
    CENTRE = (5, 5, 5)

    def test_on_a_corner(self):
        chance = random.Random(9)
        for turn in range(150):
            others = [tuple(chance.randrange(12) for axis in range(3)) for corner in range(3)]
            self.expect_like_oracle(tetrahedron(self.CENTRE, *others), 2, [(2, 2, 2)])

    def test_on_a_side(self):
        chance = random.Random(10)
        for turn in range(150):
            end = tuple(chance.randrange(11) for axis in range(3))
            others = [tuple(chance.randrange(12) for axis in range(3)) for corner in range(2)]
            mirrored = tuple(10 - number for number in end)
            self.expect_like_oracle(tetrahedron(end, mirrored, *others), 2, [(2, 2, 2)])

    def test_on_a_triangle(self):
        chance = random.Random(11)
        for turn in range(300):
            a, b, d = [tuple(chance.randrange(12) for axis in range(3)) for corner in range(3)]
            c = tuple(15 - m - n for m, n in zip(a, b))
            if min(c) >= 0:
                self.expect_like_oracle(tetrahedron(a, b, c, d), 2, [(2, 2, 2)])

    def test_straight_below_corners_and_sides(self):
        for x, y, z in ((5, 5, 9), (5, 5, 1), (9, 5, 5), (1, 5, 5), (5, 9, 5), (5, 1, 5)):
            for others in (((1, 1, 11), (11, 2, 3), (4, 11, 0)), ((5, 1, 1), (5, 11, 1), (5, 3, 11)),
                           ((1, 1, 5), (11, 1, 5), (3, 11, 5)), ((0, 5, 0), (11, 5, 1), (3, 5, 11))):
                self.expect_like_oracle(tetrahedron((x, y, z), *others), 2, SMALL_CELLS[::5] + [(2, 2, 2)])


class WithoutExtent(InsideCase):
    def test_upright_along_each_look(self):
        for axis in range(3):
            corners = [(1, 1), (11, 1), (1, 11), (9, 9)]
            flat = [tuple(pair[:axis]) + (5,) + tuple(pair[axis:]) for pair in corners]
            self.assertEqual(cells_inside(tetrahedron(*flat), 2, SMALL_CELLS), [])
            self.assertEqual(cells_inside((flat, [(0, 1, 2)] * 2), 2, SMALL_CELLS), [])

    def test_corners_in_a_row(self):
        for corners in (((1, 1, 1), (5, 5, 5), (9, 9, 9), (11, 11, 11)), ((5, 5, 0), (5, 5, 3), (5, 5, 7), (5, 5, 12)),
                        ((0, 3, 3), (2, 3, 3), (7, 3, 3), (12, 3, 3)), ((3, 1, 7), (3, 5, 7), (3, 11, 7), (3, 2, 7)),
                        ((1, 1, 5), (5, 5, 5), (9, 9, 5), (3, 3, 5))):
            self.assertEqual(cells_inside(tetrahedron(*corners), 2, SMALL_CELLS), [])

    def test_corners_at_one_spot(self):
        self.assertEqual(cells_inside(tetrahedron(*[(5, 5, 5)] * 4), 2, SMALL_CELLS), [])
        self.assertEqual(cells_inside(tetrahedron((5, 5, 5), (5, 5, 5), (7, 5, 5), (5, 9, 5)), 2, SMALL_CELLS), [])

    def test_beside_a_body(self):
        solid = box((1, 1, 1), (9, 9, 9))
        found = cells_inside(solid, 2, SMALL_CELLS)
        for corners in ([(5, 5, 5)] * 4, [(1, 1, 1), (3, 3, 3), (5, 5, 5), (9, 9, 9)],
                        [(5, 5, 0), (5, 5, 3), (5, 5, 7), (5, 5, 12)], [(1, 1, 5), (11, 1, 5), (1, 11, 5), (9, 9, 5)]):
            self.assertEqual(cells_inside(together(solid, tetrahedron(*corners)), 2, SMALL_CELLS), found)

    def test_a_box_with_a_side_that_has_a_corner_on_it(self):
        # The side from corner 0 to corner 1 goes by a corner halfway, and a triangle without extent closes the gap.
        corners = box((1, 1, 1), (9, 9, 9))[0] + [(5, 1, 1)]
        triangles = []
        for three in BOX_TRIANGLES:
            if set(three) >= {0, 1} and 3 in three:
                third = [k for k in three if k not in (0, 1)][0]
                triangles += [(0, 8, third), (8, 1, third)]
            else:
                triangles.append(three)
        triangles.append((0, 8, 1))
        self.assertEqual(cells_inside((corners, triangles), 2, SMALL_CELLS),
                         cells_inside(box((1, 1, 1), (9, 9, 9)), 2, SMALL_CELLS))


class Rays(unittest.TestCase):
    def test_each_look_meets_the_triangle_ahead_of_it_alone(self):
        # Of a mesh that isn't closed the looks tell different things, so that each one's way can be seen.
        square = [(0, 0), (12, 0), (0, 12)]
        for look, (axis, height) in enumerate(((2, 9), (2, 1), (0, 9), (0, 1), (1, 9), (1, 1))):
            corners = [pair[:axis] + (height,) + pair[axis:] for pair in square]
            mesh = Mesh(corners, [(0, 1, 2)])
            told = [lies_inside(mesh, centre_of(2, 1, 1, 1), other) for other in LOOKS]
            self.assertEqual(told, [int(other == look) for other in LOOKS], look)


class Promises(InsideCase):
    def test_random_closed_meshes_by_all_looks(self):
        chance = random.Random(12)
        for turn in range(70):
            mesh = random_closed(chance, chance.choice([4, 7, 12]), chance.randrange(4, 10), chance.randrange(1, 8))
            self.expect_like_oracle(mesh, 2, chance.sample(SMALL_CELLS, 30))

    def test_wide_random_closed_meshes(self):
        chance = random.Random(13)
        cells = list(itertools.product(range(12), repeat=3))
        for turn in range(15):
            mesh = random_closed(chance, 65535, chance.randrange(4, 65), chance.randrange(1, 33))
            for c in (1, 5461, 5462, 8191, 8192):
                self.expect_like_oracle(mesh, c, chance.sample(cells, 4))

    def test_far_corners_at_centres(self):
        chance = random.Random(14)
        for turn in range(20):
            mesh = random_closed(chance, 5, 8, 4)
            far = ([tuple((2 * n + 1) * 4096 for n in corner) for corner in mesh[0]], mesh[1])
            self.expect_like_oracle(far, 8192, chance.sample(SMALL_CELLS, 25))

    def test_the_order_of_corners_and_triangles_says_nothing(self):
        chance = random.Random(15)
        for turn in range(20):
            corners, triangles = random_closed(chance, 7, 6, 4)
            cells = chance.sample(SMALL_CELLS[:172], 40)
            found = cells_inside((corners, triangles), 2, cells)
            mixed = [tuple(chance.sample(three, 3)) for three in triangles]
            self.assertEqual(cells_inside((corners, mixed), 2, cells), found)
            chance.shuffle(mixed)
            self.assertEqual(cells_inside((corners, mixed), 2, cells), found)
            names = chance.sample(range(6), 6)
            renamed = [tuple(names.index(k) for k in three) for three in triangles]
            self.assertEqual(cells_inside(([corners[k] for k in names], renamed), 2, cells), found)

    def test_every_order_of_a_tetrahedron(self):
        corners = [(1, 3, 1), (11, 5, 1), (3, 9, 5), (5, 5, 11)]
        found = cells_inside((corners, TETRAHEDRON), 2, SMALL_CELLS[::3])
        for orders in itertools.permutations(range(6), 4):
            if sum(orders) % 5 == 0:
                mixed = [list(itertools.permutations(three))[order] for three, order in zip(TETRAHEDRON, orders)]
                self.assertEqual(cells_inside((corners, mixed), 2, SMALL_CELLS[::3]), found)

    def test_put_together_it_is_inside_of_one_alone(self):
        chance = random.Random(16)
        for turn in range(30):
            first = mesh_signs(random_closed(chance, 9, 6, 3))
            second = mesh_signs(random_closed(chance, 9, 7, 3))
            joined = told_bytes(both(first, second))
            for cell in chance.sample(SMALL_CELLS, 20):
                alone = by_all_looks(first, 2, *cell) != by_all_looks(second, 2, *cell)
                self.assertEqual(by_all_looks(joined, 2, *cell), int(alone))

    def test_put_together_with_itself_nothing_is_inside(self):
        text = mesh_signs(box((1, 1, 1), (9, 9, 9)))
        joined = told_bytes(both(text, text))
        self.assertEqual([cell for cell in SMALL_CELLS if by_all_looks(joined, 2, *cell)], [])


class Refusals(unittest.TestCase):
    BOX = mesh_signs(box((0, 0, 0), (65535, 65535, 65535)))
    HOLED = mesh_signs((box((0, 0, 0), (9, 9, 9))[0], BOX_TRIANGLES[1:]))
    WRONG = [(0, 0, 0, 0, 0), (8193, 0, 0, 0, 0), (1, 12, 0, 0, 0), (1, 0, 12, 0, 0), (1, 0, 0, 12, 0),
             (1, 0, 0, 0, 6), (GREATEST,) * 5, (0, 12, 12, 12, 6)]

    def test_the_pitch(self):
        for look in LOOKS:
            self.assertEqual(inside(1, 0, 0, 0, look, self.BOX), [1, 0, 0])
            self.assertEqual(inside(8192, 0, 0, 0, look, self.BOX), [1, 0, 0])
            for c in (0, 8193, 8194, 65536, 2 ** 32, 2 ** 63, GREATEST):
                self.assertEqual(inside(c, 0, 0, 0, look, self.BOX), OUT_OF_RANGE)

    def test_the_look(self):
        self.assertEqual(inside(1, 0, 0, 0, 5, self.BOX), [1, 0, 0])
        for look in (6, 7, 8, 255, 2 ** 32, GREATEST):
            self.assertEqual(inside(1, 0, 0, 0, look, self.BOX), OUT_OF_RANGE)

    def test_the_cell(self):
        for axis in range(3):
            for number in (11, 12, 13, 255, 2 ** 32, GREATEST):
                cell = [0, 0, 0]
                cell[axis] = number
                for look in LOOKS:
                    expected = [1, 0, 0] if number == 11 else OUT_OF_RANGE
                    self.assertEqual(inside(5000, *cell, look, self.BOX), expected)

    def test_each_wrong_number_by_itself(self):
        for numbers in self.WRONG:
            self.assertEqual(inside(*numbers, self.BOX), OUT_OF_RANGE)
            self.assertEqual(inside(*numbers, []), OUT_OF_RANGE)

    def test_not_closed_ahead_of_wrong_numbers(self):
        for text in (self.HOLED, signs(corner_lines(3) + "t 0 1 2\n"), mesh_signs(([(5, 5, 5)] * 3, [(0, 1, 2)]))):
            self.assertEqual(inside(1, 0, 0, 0, 0, text), UNFIT)
            for numbers in self.WRONG:
                self.assertEqual(inside(*numbers, text), UNFIT)

    def test_closed_is_told_by_the_corners_numbers(self):
        corners, triangles = box((0, 0, 0), (9, 9, 9))
        loose = [corners[k] for three in triangles for k in three]
        text = mesh_text(loose, [(k, k + 1, k + 2) for k in range(0, len(loose), 3)])
        self.assertEqual(inside(2, 1, 1, 1, 0, signs(text)), UNFIT)

    def test_a_fault_ahead_of_them(self):
        for text in TEXTS_AT_FAULT:
            for numbers in [(1, 0, 0, 0, 0)] + self.WRONG:
                self.assertEqual(inside(*numbers, signs(text)), NONE_SUCH)
        self.assertEqual(inside(1, 0, 0, 0, 0, self.HOLED + [0]), NONE_SUCH)

    def test_too_long_ahead_of_all(self):
        for text in ([0] * 16385, signs("v 1 2 3\n" * 2049), [10] * 16500):
            for numbers in [(1, 0, 0, 0, 0)] + self.WRONG:
                self.assertEqual(inside(*numbers, text), TOO_LONG)
        self.assertEqual(inside(1, 0, 0, 0, 0, [0] * 16384), NONE_SUCH)


if __name__ == "__main__":
    unittest.main()
