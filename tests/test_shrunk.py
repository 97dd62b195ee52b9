import random
import unittest

from beadbodies.bodies import grown, shrunk
from tests.oracle import (BYTES_AT_FAULT, GREATEST, GRIDS, NONE_SUCH, OUT_OF_RANGE, TOO_LONG, all_cells, body_signs,
                          random_cells, shrunk_cells, told_body, told_bytes)

REACHES = (0, 1, 2, 3, 4, 5, 8, 9, 10, 24, 25, 36, 199, 200)


def dense_cells(chance, grid):
    """Nearly all cells, so that something is left of them."""
    return random_cells(chance, grid, chance.choice([0.8, 0.95, 0.99]))


class Shrunk(unittest.TestCase):
    def expect(self, grid, cells, q):
        answer = shrunk(q, body_signs(grid, cells))
        self.assertEqual(told_body(answer), (grid, shrunk_cells(cells, q)), (grid, q))

    def test_written_out(self):
        b = body_signs((5, 5, 1), set(all_cells((5, 5, 1))))
        for q, rows in ((0, ["11111", "11111", "11111", "11111", "11111"]),
                        (1, ["00000", "01110", "01110", "01110", "00000"]),
                        (2, ["00000", "01110", "01110", "01110", "00000"]),
                        (3, ["00000", "01110", "01110", "01110", "00000"]),
                        (4, ["00000", "00000", "00100", "00000", "00000"]),
                        (5, ["00000", "00000", "00100", "00000", "00000"]),
                        (8, ["00000", "00000", "00100", "00000", "00000"]),
                        (9, ["00000", "00000", "00000", "00000", "00000"])):
            cells = {(x, y, 0) for y, row in enumerate(rows) for x, sign in enumerate(row) if sign == "1"}
            self.assertEqual(told_body(shrunk(q, b)), ((5, 5, 1), cells), q)

    def test_a_missing_cell(self):
        cells = set(all_cells((7, 7, 1))) - {(3, 3, 0)}
        b = body_signs((7, 7, 1), cells)
        ring = {(x, y, 0) for x in range(1, 6) for y in range(1, 6)}
        self.assertEqual(told_body(shrunk(1, b))[1],
                         ring - {(3, 3, 0), (2, 3, 0), (4, 3, 0), (3, 2, 0), (3, 4, 0)})
        self.assertEqual(told_body(shrunk(2, b))[1], ring - {(x, y, 0) for x in (2, 3, 4) for y in (2, 3, 4)})

    def test_by_0_it_is_the_body(self):
        chance = random.Random(37)
        for grid in GRIDS:
            b = body_signs(grid, random_cells(chance, grid, 0.5))
            self.assertEqual(told_bytes(shrunk(0, b)), b)

    def test_none_and_all(self):
        for grid in GRIDS:
            for q in REACHES:
                self.expect(grid, set(), q)
                self.expect(grid, set(all_cells(grid)), q)

    def test_cells_at_the_border_go(self):
        for grid in GRIDS:
            told = told_body(shrunk(1, body_signs(grid, set(all_cells(grid)))))[1]
            self.assertEqual(told, {(x, y, z) for x, y, z in all_cells(grid)
                                    if 0 < x < grid[0] - 1 and 0 < y < grid[1] - 1})

    def test_one_cell_and_one_row(self):
        for grid in ((1, 1, 1), (12, 1, 1), (1, 12, 1), (1, 1, 12)):
            every = set(all_cells(grid))
            for q in REACHES:
                told = told_body(shrunk(q, body_signs(grid, every)))[1]
                self.assertEqual(told, every if q == 0 else set())

    def test_the_lowest_and_the_highest_layer_are_no_border(self):
        told = told_body(shrunk(1, body_signs((3, 3, 2), set(all_cells((3, 3, 2))))))[1]
        self.assertEqual(told, {(1, 1, 0), (1, 1, 1)})

    def test_layers_say_nothing_of_each_other(self):
        chance = random.Random(38)
        grid = (7, 8, 4)
        cells = dense_cells(chance, grid)
        for q in REACHES:
            whole = told_body(shrunk(q, body_signs(grid, cells)))[1]
            for z in range(4):
                layer = {cell for cell in cells if cell[2] == z}
                told = told_body(shrunk(q, body_signs(grid, layer)))[1]
                self.assertEqual(told, {cell for cell in whole if cell[2] == z})

    def test_random_bodies(self):
        chance = random.Random(39)
        for grid in GRIDS:
            for q in REACHES:
                self.expect(grid, dense_cells(chance, grid), q)
                self.expect(grid, random_cells(chance, grid, 0.6), q)


class Promises(unittest.TestCase):
    def test_shrunk_in_the_body_in_what_is_grown(self):
        chance = random.Random(40)
        for turn in range(40):
            grid = tuple(chance.randrange(1, 13) for axis in range(3))
            b = body_signs(grid, dense_cells(chance, grid))
            for q in (0, 1, 2, 4, 5, 8, chance.randrange(201)):
                cells = told_body(shrunk(q, b))[1]
                self.assertLessEqual(cells, told_body(shrunk(0, b))[1])
                self.assertLessEqual(told_body(shrunk(0, b))[1], told_body(grown(q, b))[1])

    def test_shrunk_by_more_is_no_more(self):
        chance = random.Random(41)
        b = body_signs((12, 12, 3), random_cells(chance, (12, 12, 3), 0.99))
        told = told_body(shrunk(0, b))[1]
        for q in range(1, 50):
            less = told_body(shrunk(q, b))[1]
            self.assertLessEqual(less, told)
            told = less

    def test_shrunk_and_grown_again_it_lies_in_the_body(self):
        chance = random.Random(42)
        for turn in range(40):
            grid = tuple(chance.randrange(3, 13) for axis in range(3))
            cells = dense_cells(chance, grid)
            for q in (0, 1, 2, 4, 5, 8):
                again = told_body(grown(q, told_bytes(shrunk(q, body_signs(grid, cells)))))[1]
                self.assertLessEqual(again, cells)


class Refusals(unittest.TestCase):
    def test_q_above_200(self):
        for grid in ((1, 1, 1), (12, 1, 1), (12, 12, 12)):
            b = body_signs(grid, {(0, 0, 0)})
            self.assertEqual(told_body(shrunk(200, b)), (grid, set()))
            for q in (201, 202, 255, 2 ** 32, GREATEST):
                self.assertEqual(shrunk(q, b), OUT_OF_RANGE)

    def test_a_fault_ahead_of_q(self):
        for b in BYTES_AT_FAULT:
            for q in (0, 200, 201, GREATEST):
                self.assertEqual(shrunk(q, b), NONE_SUCH)

    def test_too_long_ahead_of_all(self):
        b = body_signs((2, 2, 2), set())
        for q in (0, 200, 201, GREATEST):
            self.assertEqual(shrunk(q, b + [0] * (16384 - len(b))), NONE_SUCH)
            self.assertEqual(shrunk(q, b + [0] * (16385 - len(b))), TOO_LONG)
            self.assertEqual(shrunk(q, [0] * 16385), TOO_LONG)


if __name__ == "__main__":
    unittest.main()
