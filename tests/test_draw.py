import random
import unittest

from beadbodies.bodies import draw
from tests.oracle import (BYTES_AT_FAULT, GREATEST, GRIDS, NONE_SUCH, NOT_THERE, TOO_LONG, all_cells, body_signs,
                          drawing, random_cells, signs, told_bytes)


class Draw(unittest.TestCase):
    def test_written_out(self):
        b = body_signs((3, 2, 2), {(0, 0, 0), (2, 0, 0), (1, 1, 0), (2, 1, 1)})
        self.assertEqual(draw(0, b), [8, 8] + signs("#.#\n.#.\n") + [0])
        self.assertEqual(draw(1, b), [8, 8] + signs("...\n..#\n") + [0])

    def test_the_least_grid(self):
        self.assertEqual(draw(0, body_signs((1, 1, 1), set())), [2, 2, 46, 10, 0])
        self.assertEqual(draw(0, body_signs((1, 1, 1), {(0, 0, 0)})), [2, 2, 35, 10, 0])

    def test_each_cell_by_itself(self):
        for grid in ((2, 3, 4), (4, 3, 2), (5, 1, 3)):
            for cell in all_cells(grid):
                b = body_signs(grid, {cell})
                for z in range(grid[2]):
                    self.assertEqual(told_bytes(draw(z, b)), drawing(grid, {cell}, z))

    def test_each_layer_of_random_bodies(self):
        chance = random.Random(46)
        for grid in GRIDS + [(4, 9, 3), (11, 2, 8)]:
            for cells in (set(), set(all_cells(grid)), random_cells(chance, grid, 0.5)):
                b = body_signs(grid, cells)
                for z in range(grid[2]):
                    told = told_bytes(draw(z, b))
                    self.assertEqual(told, drawing(grid, cells, z))
                    self.assertEqual(len(told), (grid[0] + 1) * grid[1])


class Refusals(unittest.TestCase):
    def test_no_such_layer(self):
        for grid in ((5, 6, 1), (2, 3, 4), (1, 1, 12), (12, 12, 11)):
            b = body_signs(grid, set(all_cells(grid)))
            self.assertGreater(draw(grid[2] - 1, b)[0], 0)
            for z in (grid[2], grid[2] + 1, 13, 255, 2 ** 32, GREATEST):
                self.assertEqual(draw(z, b), NOT_THERE)

    def test_a_fault_ahead_of_z(self):
        for b in BYTES_AT_FAULT:
            for z in (0, 12, GREATEST):
                self.assertEqual(draw(z, b), NONE_SUCH)

    def test_too_long_ahead_of_all(self):
        b = body_signs((2, 2, 2), set())
        for z in (0, 2, GREATEST):
            self.assertEqual(draw(z, b + [0] * (16384 - len(b))), NONE_SUCH)
            self.assertEqual(draw(z, b + [0] * (16385 - len(b))), TOO_LONG)
            self.assertEqual(draw(z, [0] * 16385), TOO_LONG)


if __name__ == "__main__":
    unittest.main()
