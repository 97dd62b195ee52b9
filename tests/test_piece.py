import itertools
import random
import unittest

from beadbodies.bodies import bodysize, piece
from tests.oracle import (BYTES_AT_FAULT, GREATEST, GRIDS, NONE_SUCH, NOT_OF_BODY, NOT_THERE, TOO_LONG, all_cells,
                          are_neighbours, body_signs, joined, random_cells)


class Piece(unittest.TestCase):
    def expect_all(self, grid, cells):
        """What is told of every cell of the grid."""
        b = body_signs(grid, cells)
        numbers = {cell: number for number, found in enumerate(joined(cells)) for cell in found}
        for cell in all_cells(grid):
            expected = [numbers[cell], 0, 0] if cell in cells else NOT_OF_BODY
            self.assertEqual(piece(*cell, b), expected, (grid, cells, cell))

    def test_written_out(self):
        b = body_signs((3, 2, 2), {(2, 0, 0), (0, 1, 0), (0, 1, 1), (1, 0, 1)})
        self.assertEqual(piece(2, 0, 0, b), [0, 0, 0])
        self.assertEqual(piece(0, 1, 0, b), [1, 0, 0])
        self.assertEqual(piece(0, 1, 1, b), [1, 0, 0])
        self.assertEqual(piece(1, 0, 1, b), [2, 0, 0])
        self.assertEqual(piece(0, 0, 0, b), NOT_OF_BODY)

    def test_numbered_by_the_least_cell_not_by_where_it_begins(self):
        # The piece that begins at the left is numbered behind the one with a cell in the row below.
        self.expect_all((4, 3, 1), {(0, 1, 0), (3, 0, 0), (3, 1, 0), (3, 2, 0), (0, 2, 0)})
        self.expect_all((3, 3, 3), {(0, 0, 2), (2, 2, 0), (2, 2, 1), (2, 2, 2), (0, 1, 2)})

    def test_a_piece_that_comes_back_to_lesser_numbers(self):
        # A hook: its far end has lesser numbers than cells of the way that leads there.
        hook = {(0, 0, 0), (0, 1, 0), (0, 2, 0), (1, 2, 0), (2, 2, 0), (2, 1, 0), (2, 0, 0)}
        self.expect_all((3, 3, 1), hook)
        self.expect_all((3, 3, 1), hook - {(1, 2, 0)})
        self.expect_all((5, 3, 2), hook | {(4, 0, 0), (4, 0, 1)})

    def test_one_piece(self):
        for grid in GRIDS[:11]:
            self.expect_all(grid, set(all_cells(grid)))

    def test_each_cell_by_itself(self):
        for grid in ((3, 4, 5), (8, 2, 1)):
            self.expect_all(grid, {cell for cell in all_cells(grid) if sum(cell) % 2 == 1})

    def test_touching_at_a_corner_or_along_a_line_alone(self):
        for count in range(1, 5):
            for cells in itertools.combinations(all_cells((2, 2, 2)), count):
                self.expect_all((2, 2, 2), set(cells))

    def test_random_bodies(self):
        chance = random.Random(27)
        for turn in range(60):
            grid = tuple(chance.randrange(1, 6) for axis in range(3))
            self.expect_all(grid, random_cells(chance, grid, chance.choice([0.2, 0.4, 0.6])))

    def test_12_by_12_by_12(self):
        chance = random.Random(28)
        cells = random_cells(chance, (12, 12, 12), 0.3)
        b = body_signs((12, 12, 12), cells)
        for number, found in enumerate(joined(cells)):
            for cell in chance.sample(sorted(found), min(2, len(found))):
                self.assertEqual(piece(*cell, b), [number, 0, 0])

    def test_neighbours_are_of_one_piece_and_every_number_is_used(self):
        chance = random.Random(29)
        for turn in range(15):
            cells = random_cells(chance, (4, 5, 3), 0.45)
            b = body_signs((4, 5, 3), cells)
            numbers = {cell: piece(*cell, b)[0] for cell in cells}
            for cell, other in itertools.combinations(cells, 2):
                if are_neighbours(cell, other):
                    self.assertEqual(numbers[cell], numbers[other])
            self.assertEqual(sorted(set(numbers.values())), list(range(bodysize(b)[7])))


class Refusals(unittest.TestCase):
    def test_no_such_cell(self):
        for cells in (set(), set(all_cells((2, 3, 4)))):
            b = body_signs((2, 3, 4), cells)
            for axis, side in enumerate((2, 3, 4)):
                for number in (side, side + 1, 12, 13, 255, 2 ** 32, GREATEST):
                    cell = [0, 0, 0]
                    cell[axis] = number
                    self.assertEqual(piece(*cell, b), NOT_THERE)
                cell[axis] = side - 1
                self.assertEqual(piece(*cell, b), [0, 0, 0] if cells else NOT_OF_BODY)
            self.assertEqual(piece(GREATEST, GREATEST, GREATEST, b), NOT_THERE)
            self.assertEqual(piece(3, 2, 1, b), NOT_THERE)

    def test_the_end_of_a_row_is_not_the_next_row(self):
        b = body_signs((2, 3, 4), set(all_cells((2, 3, 4))) - {(0, 1, 0)})
        self.assertEqual(piece(2, 0, 0, b), NOT_THERE)
        self.assertEqual(piece(0, 3, 0, b), NOT_THERE)
        self.assertEqual(piece(0, 1, 0, b), NOT_OF_BODY)

    def test_no_bodys_bytes(self):
        for b in BYTES_AT_FAULT:
            for number in (0, 12, GREATEST):
                self.assertEqual(piece(number, number, number, b), NONE_SUCH)

    def test_too_long(self):
        b = body_signs((2, 2, 2), {(0, 0, 0)})
        for number in (0, 1, 2, GREATEST):
            self.assertEqual(piece(number, 0, 0, b + [0] * (16384 - len(b))), NONE_SUCH)
            self.assertEqual(piece(number, 0, 0, b + [0] * (16385 - len(b))), TOO_LONG)
            self.assertEqual(piece(number, 0, 0, [0] * 16385), TOO_LONG)


if __name__ == "__main__":
    unittest.main()
