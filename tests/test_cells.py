import itertools
import random
import unittest

from beadbodies.bodies import bodyjudge, both, cells, inside
from tests.oracle import (BOX_TRIANGLES, GREATEST, NONE_SUCH, OUT_OF_RANGE, TEXTS_AT_FAULT, TOO_LONG, UNFIT, all_cells,
                          body_signs, box, corner_lines, is_inside, mesh_signs, random_closed, signs, tetrahedron,
                          together, told_body, told_bytes)

# Grids of three different sides, with 0 to 7 bits left over.
GRIDS = [(1, 1, 1), (1, 2, 3), (5, 3, 1), (4, 1, 3), (1, 3, 7), (2, 3, 5), (3, 1, 2), (3, 5, 7), (2, 4, 3), (8, 3, 1),
         (1, 11, 12), (12, 5, 3), (5, 2, 1), (9, 1, 3)]


class Cells(unittest.TestCase):
    def test_written_out(self):
        text = mesh_signs(box((0, 0, 0), (4, 2, 2)))
        self.assertEqual(cells(2, 3, 2, 1, text), [8, 8, 66, 68, 66, 49, 3, 2, 1, 0b000011, 0])
        text = mesh_signs(box((2, 2, 2), (6, 4, 6)))
        self.assertEqual(cells(2, 3, 2, 2, text), [9, 9, 66, 68, 66, 49, 3, 2, 2, 0, 0b1100, 0])

    def test_all_left_over_counts_are_among_the_grids(self):
        self.assertEqual({wide * deep * high % 8 for wide, deep, high in GRIDS}, set(range(8)))

    def test_what_inside_tells_of_each_cell(self):
        chance = random.Random(17)
        meshes = [box((1, 1, 1), (7, 5, 3)), tetrahedron((1, 1, 1), (11, 1, 1), (1, 11, 1), (1, 1, 11)),
                  together(box((0, 0, 0), (12, 12, 12)), box((2, 3, 4), (8, 9, 10)))]
        meshes += [random_closed(chance, 12, 8, 6) for turn in range(3)]
        for mesh in meshes:
            text = mesh_signs(mesh)
            for grid in GRIDS:
                told = {cell for cell in all_cells(grid) if inside(2, *cell, sum(cell) % 6, text) == [1, 0, 0]}
                self.assertEqual(told_body(cells(2, *grid, text)), (grid, told))

    def test_12_by_12_by_12(self):
        grid = (12, 12, 12)
        chance = random.Random(18)
        for mesh, c in ((random_closed(chance, 65535, 64, 32), 5461), (random_closed(chance, 24, 9, 8), 2)):
            text = mesh_signs(mesh)
            told = {cell for cell in all_cells(grid) if inside(c, *cell, 3, text) == [1, 0, 0]}
            self.assertEqual(told_body(cells(c, *grid, text)), (grid, told))
            self.assertTrue(0 < len(told) < 1728)

    def test_like_the_oracle(self):
        chance = random.Random(19)
        for turn in range(12):
            grid = tuple(chance.randrange(1, 6) for axis in range(3))
            mesh = random_closed(chance, 9, 7, 5)
            told = {cell for cell in all_cells(grid) if is_inside(mesh, 2, *cell)}
            self.assertEqual(told_body(cells(2, *grid, mesh_signs(mesh))), (grid, told))

    def test_boxes_hold_their_lesser_faces_alone(self):
        for low, high in itertools.product((0, 1, 2), (5, 6, 7)):
            text = mesh_signs(box((low, low, low), (high, high, high)))
            told = {cell for cell in all_cells((4, 5, 6)) if all(low <= 2 * n + 1 < high for n in cell)}
            self.assertEqual(told_body(cells(2, 4, 5, 6, text)), ((4, 5, 6), told))

    def test_without_triangles(self):
        for text in ("", corner_lines(1), corner_lines(64)):
            for grid in GRIDS + [(12, 12, 12)]:
                told = body_signs(grid, set())
                self.assertEqual(cells(1, *grid, signs(text)), [len(told), len(told)] + told + [0])

    def test_all_cells(self):
        text = mesh_signs(box((0, 0, 0), (65535, 65535, 65535)))
        for grid in GRIDS + [(12, 12, 12)]:
            answer = cells(5461, *grid, text)
            self.assertEqual(told_bytes(answer), body_signs(grid, set(all_cells(grid))))
            self.assertEqual(bodyjudge(told_bytes(answer)), [0, 0, 0])

    def test_a_lesser_grid_tells_the_same_of_its_cells(self):
        text = mesh_signs(random_closed(random.Random(20), 24, 10, 9))
        whole = told_body(cells(2, 12, 12, 12, text))[1]
        for grid in GRIDS:
            self.assertEqual(told_body(cells(2, *grid, text))[1], whole & set(all_cells(grid)))

    def test_put_together_it_is_the_cells_of_just_one(self):
        chance = random.Random(21)
        for turn in range(20):
            first, second = [mesh_signs(random_closed(chance, 24, 9, 6)) for mesh in range(2)]
            told = [told_body(cells(2, 12, 11, 10, text))[1] for text in (first, second)]
            joined = told_body(cells(2, 12, 11, 10, told_bytes(both(first, second))))[1]
            self.assertEqual(joined, told[0] ^ told[1])


class Refusals(unittest.TestCase):
    BOX = mesh_signs(box((0, 0, 0), (65535, 65535, 65535)))
    HOLED = mesh_signs((box((0, 0, 0), (9, 9, 9))[0], BOX_TRIANGLES[1:]))
    WRONG = [(0, 1, 1, 1), (8193, 1, 1, 1), (1, 0, 1, 1), (1, 13, 1, 1), (1, 1, 0, 1), (1, 1, 13, 1), (1, 1, 1, 0),
             (1, 1, 1, 13), (0, 0, 0, 0), (GREATEST,) * 4]

    def test_the_pitch(self):
        for c in (1, 8192):
            self.assertEqual(cells(c, 1, 1, 1, self.BOX), [8, 8, 66, 68, 66, 49, 1, 1, 1, 1, 0])
        for c in (0, 8193, 65536, 2 ** 32, GREATEST):
            self.assertEqual(cells(c, 1, 1, 1, self.BOX), OUT_OF_RANGE)

    def test_the_grid(self):
        for axis in range(3):
            for number in (0, 1, 12, 13, 14, 255, 256, 2 ** 32, GREATEST):
                grid = [2, 2, 2]
                grid[axis] = number
                answer = cells(1, *grid, self.BOX)
                if number in (1, 12):
                    self.assertEqual(told_body(answer), (tuple(grid), set(all_cells(grid))))
                else:
                    self.assertEqual(answer, OUT_OF_RANGE)

    def test_each_wrong_number_by_itself(self):
        for numbers in self.WRONG:
            self.assertEqual(cells(*numbers, self.BOX), OUT_OF_RANGE)
            self.assertEqual(cells(*numbers, []), OUT_OF_RANGE)

    def test_not_closed_ahead_of_wrong_numbers(self):
        for text in (self.HOLED, signs(corner_lines(3) + "t 0 1 2\n")):
            for numbers in [(1, 1, 1, 1)] + self.WRONG:
                self.assertEqual(cells(*numbers, text), UNFIT)

    def test_a_fault_ahead_of_them(self):
        for text in TEXTS_AT_FAULT:
            for numbers in [(1, 1, 1, 1)] + self.WRONG:
                self.assertEqual(cells(*numbers, signs(text)), NONE_SUCH)
        self.assertEqual(cells(1, 1, 1, 1, self.HOLED + [0]), NONE_SUCH)

    def test_too_long_ahead_of_all(self):
        for text in ([0] * 16385, signs("v 1 2 3\n" * 2049), [10] * 16500):
            for numbers in [(1, 1, 1, 1)] + self.WRONG:
                self.assertEqual(cells(*numbers, text), TOO_LONG)
        self.assertEqual(cells(1, 1, 1, 1, [0] * 16384), NONE_SUCH)


if __name__ == "__main__":
    unittest.main()
