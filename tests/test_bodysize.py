import random
import unittest

from beadbodies.bodies import bodysize
from tests.oracle import (BYTES_AT_FAULT, GRIDS, NONE_SUCH, TOO_LONG, all_cells, are_neighbours, body_signs, joined,
                          random_cells)


def winding(grid):
    """A way through every other row that goes from end to end: one piece without a short cut."""
    cells = set()
    for y in range(0, grid[1], 2):
        cells |= {(x, y, 0) for x in range(grid[0])}
        if y + 2 < grid[1]:
            cells.add((grid[0] - 1 if y % 4 == 0 else 0, y + 1, 0))
    return cells


def winding_up(grid):
    """The winding way of every other layer, joined at its ends in turn."""
    cells = set()
    for z in range(0, grid[2], 2):
        cells |= {(x, y, z) for x, y, low in winding(grid)}
        if z + 2 < grid[2]:
            last = grid[1] - 1 - (grid[1] - 1) % 2
            cells.add((0, 0, z + 1) if z % 4 == 2 else ((grid[0] - 1 if last % 4 == 0 else 0), last, z + 1))
    return cells


class BodySize(unittest.TestCase):
    def expect(self, grid, cells, pieces):
        self.assertEqual(bodysize(body_signs(grid, cells)), [0, 0, 5, *grid, len(cells), pieces])

    def test_without_cells(self):
        for grid in GRIDS:
            self.expect(grid, set(), 0)

    def test_all_cells(self):
        for grid in GRIDS:
            self.expect(grid, set(all_cells(grid)), 1)

    def test_one_cell(self):
        for cell in all_cells((3, 4, 2)):
            self.expect((3, 4, 2), {cell}, 1)

    def test_two_cells(self):
        grid = (3, 2, 3)
        for cell in all_cells(grid):
            for other in all_cells(grid):
                if cell != other:
                    self.expect(grid, {cell, other}, 1 if are_neighbours(cell, other) else 2)

    def test_touching_at_a_corner_or_along_a_line_alone(self):
        self.expect((2, 2, 2), {(0, 0, 0), (1, 1, 1)}, 2)
        self.expect((2, 2, 2), {(0, 0, 0), (1, 1, 0)}, 2)
        self.expect((2, 2, 2), {(0, 0, 0), (1, 0, 1)}, 2)
        self.expect((2, 2, 2), {(0, 0, 0), (0, 1, 1)}, 2)
        self.expect((2, 2, 2), {(0, 0, 0), (1, 1, 0), (1, 0, 1), (0, 1, 1)}, 4)
        self.expect((2, 2, 2), {(0, 0, 0), (1, 0, 0), (1, 1, 0)}, 1)

    def test_the_end_of_a_row_does_not_touch_the_next(self):
        self.expect((3, 3, 1), {(2, 0, 0), (0, 1, 0)}, 2)
        self.expect((3, 3, 2), {(2, 2, 0), (0, 0, 1)}, 2)
        self.expect((1, 3, 2), {(0, 2, 0), (0, 0, 1)}, 2)

    def test_many_pieces(self):
        for grid in GRIDS:
            cells = {cell for cell in all_cells(grid) if sum(cell) % 2 == 0}
            self.expect(grid, cells, len(cells))
        cells = {cell for cell in all_cells((12, 12, 12)) if cell[2] % 2 == 0}
        self.expect((12, 12, 12), cells, 6)

    def test_pieces_that_wind(self):
        for grid in ((12, 12, 1), (5, 11, 1), (12, 12, 12), (7, 9, 11)):
            cells = winding_up(grid)
            self.assertEqual(len(joined(cells)), 1)
            self.expect(grid, cells, 1)
            self.expect(grid, cells - {(1, 0, 0)}, 2)

    def test_one_piece_within_another(self):
        shell = {cell for cell in all_cells((5, 5, 5)) if 0 in cell or 4 in cell}
        self.expect((5, 5, 5), shell, 1)
        self.expect((5, 5, 5), shell | {(2, 2, 2)}, 2)
        self.expect((5, 5, 5), shell | {(2, 2, 2), (2, 2, 1)}, 1)

    def test_random_bodies(self):
        chance = random.Random(25)
        for turn in range(150):
            grid = tuple(chance.randrange(1, 7) for axis in range(3))
            cells = random_cells(chance, grid, chance.choice([0.1, 0.3, 0.5, 0.8]))
            self.expect(grid, cells, len(joined(cells)))

    def test_random_bodies_of_12_by_12_by_12(self):
        chance = random.Random(26)
        for share in (0.1, 0.25, 0.35):
            cells = random_cells(chance, (12, 12, 12), share)
            self.expect((12, 12, 12), cells, len(joined(cells)))


class Refusals(unittest.TestCase):
    def test_no_bodys_bytes(self):
        for b in BYTES_AT_FAULT:
            self.assertEqual(bodysize(b), NONE_SUCH)

    def test_too_long(self):
        b = body_signs((2, 2, 2), set())
        self.assertEqual(bodysize(b + [0] * (16384 - len(b))), NONE_SUCH)
        self.assertEqual(bodysize(b + [0] * (16385 - len(b))), TOO_LONG)
        self.assertEqual(bodysize([0] * 16385), TOO_LONG)
        self.assertEqual(bodysize([0] * 16384), NONE_SUCH)


if __name__ == "__main__":
    unittest.main()
