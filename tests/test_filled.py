import itertools
import random
import unittest

from beadbodies.bodies import filled
from tests.oracle import (BYTES_AT_FAULT, GRIDS, NONE_SUCH, TOO_LONG, all_cells, body_signs, filled_cells,
                          random_cells, told_body, told_bytes)


def shell(low, high):
    """The cells of a cube from low to high, both in it, that are at its outside."""
    whole = set(itertools.product(range(low, high + 1), repeat=3))
    return {cell for cell in whole if low in cell or high in cell}


class Filled(unittest.TestCase):
    def expect(self, grid, cells, expected):
        answer = filled(body_signs(grid, cells))
        self.assertEqual(told_body(answer), (grid, expected))
        self.assertEqual(filled(told_bytes(answer)), answer)
        self.assertEqual(expected, filled_cells(grid, cells))

    def test_without_hollows(self):
        self.expect((3, 3, 3), {(1, 1, 1)}, {(1, 1, 1)})
        self.expect((4, 4, 4), {(1, 1, 1), (1, 1, 2)}, {(1, 1, 1), (1, 1, 2)})

    def test_no_cells_and_all_cells(self):
        for grid in GRIDS[:11]:
            self.expect(grid, set(), set())
            self.expect(grid, set(all_cells(grid)), set(all_cells(grid)))
        for cells in ([], all_cells((12, 12, 12))):
            b = body_signs((12, 12, 12), set(cells))
            self.assertEqual(told_bytes(filled(b)), b)

    def test_one_hollow(self):
        self.expect((3, 3, 3), shell(0, 2), set(all_cells((3, 3, 3))))
        self.expect((5, 5, 5), shell(1, 3), shell(1, 3) | {(2, 2, 2)})
        self.expect((6, 6, 6), shell(0, 5), set(all_cells((6, 6, 6))))

    def test_six_cells_round_one_are_enough(self):
        six = {(0, 1, 1), (2, 1, 1), (1, 0, 1), (1, 2, 1), (1, 1, 0), (1, 1, 2)}
        self.expect((3, 3, 3), six, six | {(1, 1, 1)})
        for gone in six:
            self.expect((3, 3, 3), six - {gone}, six - {gone})

    def test_several_hollows(self):
        cells = shell(0, 3) | {(x + 4, y + 4, z + 4) for x, y, z in shell(0, 2)}
        inner = set(itertools.product((1, 2), repeat=3)) | {(5, 5, 5)}
        self.expect((8, 8, 8), cells, cells | inner)
        grid = (5, 3, 3)
        walls = set(all_cells(grid)) - {(1, 1, 1), (3, 1, 1)}
        self.expect(grid, walls, set(all_cells(grid)))
        self.expect(grid, walls - {(0, 1, 1)}, set(all_cells(grid)) - {(0, 1, 1), (1, 1, 1)})

    def test_a_hollow_within_a_hollows_body(self):
        grid = (9, 9, 9)
        self.expect(grid, shell(0, 8) | shell(2, 6), set(all_cells(grid)))
        self.expect(grid, shell(1, 7) | shell(3, 5), set(itertools.product(range(1, 8), repeat=3)))
        self.expect(grid, shell(2, 6) | {(4, 4, 4)}, set(itertools.product(range(2, 7), repeat=3)))
        holed = shell(1, 7) - {(1, 4, 4)}
        self.expect(grid, holed | shell(3, 5), holed | shell(3, 5) | {(4, 4, 4)})

    def test_a_way_out_at_each_side(self):
        for cell in ((0, 2, 2), (4, 2, 2), (2, 0, 2), (2, 4, 2), (2, 2, 0), (2, 2, 4)):
            cells = shell(0, 4) - {cell}
            self.expect((5, 5, 5), cells, cells)

    def test_a_way_out_at_a_corner_or_along_a_line_is_none(self):
        every = set(all_cells((3, 3, 3)))
        for cell in every - {(1, 1, 1)}:
            steps = sum(n != 1 for n in cell)
            cells = every - {(1, 1, 1), cell}
            self.expect((3, 3, 3), cells, cells if steps == 1 else cells | {(1, 1, 1)})

    def test_a_way_out_that_winds(self):
        grid = (12, 12, 12)
        hollow = {(x, y, z) for x in (5, 6) for y in range(1, 11) for z in (1, 3, 5, 7, 9)}
        hollow |= {(5, 10, 2), (5, 1, 4), (5, 10, 6), (5, 1, 8)}
        out = {(5, 1, 0)}
        cells = set(all_cells(grid)) - hollow - out
        self.expect(grid, cells, cells)
        self.expect(grid, cells | out, set(all_cells(grid)))
        stopped = cells | {(5, 10, 2)}
        self.expect(grid, stopped, filled_cells(grid, stopped))
        self.assertGreater(len(filled_cells(grid, stopped)), len(stopped))

    def test_a_way_as_long_as_can_be(self):
        # Every other layer is a winding way; all that isn't of it is of the body.
        grid = (12, 12, 12)
        way = set()
        for z in range(1, 11, 2):
            for y in range(1, 11, 2):
                way |= {(x, y, z) for x in range(1, 11)}
                if y < 9:
                    way.add((10 if y % 4 == 1 else 1, y + 1, z))
            if z < 9:
                way.add((1, 1, z + 1) if z % 4 == 3 else (10, 9, z + 1))
        cells = set(all_cells(grid)) - way
        self.expect(grid, cells, set(all_cells(grid)))
        self.expect(grid, cells - {(0, 1, 1)}, cells - {(0, 1, 1)})

    def test_grids_where_all_cells_are_at_the_border(self):
        chance = random.Random(43)
        for grid in ((1, 1, 1), (12, 1, 1), (1, 12, 1), (1, 1, 12), (12, 12, 1), (12, 1, 12), (1, 12, 12), (2, 5, 6),
                     (5, 2, 6), (6, 5, 2)):
            for turn in range(5):
                cells = random_cells(chance, grid, 0.7)
                self.expect(grid, cells, cells)
        # A ring within one layer holds nothing: each cell of the layer is at the border.
        ring = {(x, y, 0) for x in (1, 2, 3) for y in (1, 2, 3)} - {(2, 2, 0)}
        self.expect((5, 5, 1), ring, ring)

    def test_a_ring_is_no_hollow(self):
        ring = {(x, y, 2) for x in (1, 2, 3) for y in (1, 2, 3)} - {(2, 2, 2)}
        self.expect((5, 5, 5), ring, ring)

    def test_random_bodies(self):
        chance = random.Random(44)
        for turn in range(120):
            grid = tuple(chance.randrange(1, 7) for axis in range(3))
            cells = random_cells(chance, grid, chance.choice([0.5, 0.7, 0.8, 0.9]))
            self.expect(grid, cells, filled_cells(grid, cells))

    def test_random_bodies_of_12_by_12_by_12(self):
        chance = random.Random(45)
        for share in (0.6, 0.7, 0.8, 0.95):
            cells = random_cells(chance, (12, 12, 12), share)
            self.expect((12, 12, 12), cells, filled_cells((12, 12, 12), cells))


class Refusals(unittest.TestCase):
    def test_no_bodys_bytes(self):
        for b in BYTES_AT_FAULT:
            self.assertEqual(filled(b), NONE_SUCH)

    def test_too_long(self):
        b = body_signs((2, 2, 2), set())
        self.assertEqual(filled(b + [0] * (16384 - len(b))), NONE_SUCH)
        self.assertEqual(filled(b + [0] * (16385 - len(b))), TOO_LONG)
        self.assertEqual(filled([0] * 16385), TOO_LONG)


if __name__ == "__main__":
    unittest.main()
