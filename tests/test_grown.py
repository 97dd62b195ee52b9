import random
import unittest

from beadbodies.bodies import bodyboth, grown
from tests.oracle import (BYTES_AT_FAULT, GREATEST, GRIDS, NONE_SUCH, OUT_OF_RANGE, TOO_LONG, all_cells, body_signs,
                          grown_cells, random_cells, told_body, told_bytes)

REACHES = (0, 1, 2, 3, 4, 5, 8, 9, 10, 25, 120, 121, 199, 200)


class Grown(unittest.TestCase):
    def expect(self, grid, cells, q):
        answer = grown(q, body_signs(grid, cells))
        self.assertEqual(told_body(answer), (grid, grown_cells(grid, cells, q)), (grid, cells, q))

    def test_written_out(self):
        b = body_signs((5, 5, 1), {(2, 2, 0)})
        for q, rows in ((0, ["00000", "00000", "00100", "00000", "00000"]),
                        (1, ["00000", "00100", "01110", "00100", "00000"]),
                        (2, ["00000", "01110", "01110", "01110", "00000"]),
                        (3, ["00000", "01110", "01110", "01110", "00000"]),
                        (4, ["00100", "01110", "11111", "01110", "00100"]),
                        (5, ["01110", "11111", "11111", "11111", "01110"]),
                        (7, ["01110", "11111", "11111", "11111", "01110"]),
                        (8, ["11111", "11111", "11111", "11111", "11111"])):
            cells = {(x, y, 0) for y, row in enumerate(rows) for x, sign in enumerate(row) if sign == "1"}
            self.assertEqual(told_body(grown(q, b)), ((5, 5, 1), cells), q)

    def test_by_0_it_is_the_body(self):
        chance = random.Random(32)
        for grid in GRIDS:
            b = body_signs(grid, random_cells(chance, grid, 0.5))
            self.assertEqual(told_bytes(grown(0, b)), b)

    def test_none_and_all(self):
        for grid in GRIDS:
            every = set(all_cells(grid))
            for q in (0, 1, 200):
                self.expect(grid, set(), q)
                self.assertEqual(told_body(grown(q, body_signs(grid, every))), (grid, every))

    def test_one_cell_and_one_row(self):
        for grid in ((1, 1, 1), (12, 1, 1), (1, 12, 1), (1, 1, 12)):
            for cell in all_cells(grid):
                for q in REACHES:
                    self.expect(grid, {cell}, q)

    def test_from_a_corner_of_a_wide_layer(self):
        for corner in ((0, 0, 0), (11, 0, 5), (0, 11, 11), (11, 11, 7)):
            for q in REACHES:
                self.expect((12, 12, 12), {corner}, q)
        # From corner to corner it is 11 and 11, 242 in all, which no q reaches.
        self.assertNotIn((11, 11, 0), told_body(grown(200, body_signs((12, 12, 12), {(0, 0, 0)})))[1])
        self.assertIn((10, 10, 0), told_body(grown(200, body_signs((12, 12, 12), {(0, 0, 0)})))[1])
        self.assertNotIn((10, 10, 0), told_body(grown(199, body_signs((12, 12, 12), {(0, 0, 0)})))[1])

    def test_layers_say_nothing_of_each_other(self):
        chance = random.Random(33)
        grid = (6, 5, 4)
        cells = random_cells(chance, grid, 0.1)
        for q in (0, 1, 2, 4, 5, 8, 200):
            whole = told_body(grown(q, body_signs(grid, cells)))[1]
            for z in range(4):
                layer = {cell for cell in cells if cell[2] == z}
                told = told_body(grown(q, body_signs(grid, layer)))[1]
                self.assertEqual(told, {cell for cell in whole if cell[2] == z})

    def test_random_bodies(self):
        chance = random.Random(34)
        for grid in GRIDS:
            for q in REACHES:
                self.expect(grid, random_cells(chance, grid, chance.choice([0.02, 0.1, 0.5])), q)

    def test_by_more_is_no_less_and_holds_the_body(self):
        chance = random.Random(35)
        for grid in ((5, 6, 2), (12, 1, 1), (12, 12, 2)):
            cells = random_cells(chance, grid, 0.05)
            told = cells
            for q in list(range(0, 40)) + [60, 100, 150, 199, 200]:
                more = told_body(grown(q, body_signs(grid, cells)))[1]
                self.assertLessEqual(told, more)
                told = more

    def test_either_of_two_grown_is_grown_of_either(self):
        chance = random.Random(36)
        grid = (7, 6, 3)
        for q in REACHES:
            first, second = [body_signs(grid, random_cells(chance, grid, 0.05)) for body in range(2)]
            self.assertEqual(grown(q, told_bytes(bodyboth(0, first, second))),
                             bodyboth(0, told_bytes(grown(q, first)), told_bytes(grown(q, second))))


class Refusals(unittest.TestCase):
    def test_q_above_200(self):
        for grid in ((1, 1, 1), (12, 1, 1), (12, 12, 12)):
            b = body_signs(grid, {(0, 0, 0)})
            self.assertGreater(grown(200, b)[0], 0)
            for q in (201, 202, 242, 255, 2 ** 32, GREATEST):
                self.assertEqual(grown(q, b), OUT_OF_RANGE)

    def test_a_fault_ahead_of_q(self):
        for b in BYTES_AT_FAULT:
            for q in (0, 200, 201, GREATEST):
                self.assertEqual(grown(q, b), NONE_SUCH)

    def test_too_long_ahead_of_all(self):
        b = body_signs((2, 2, 2), set())
        for q in (0, 200, 201, GREATEST):
            self.assertEqual(grown(q, b + [0] * (16384 - len(b))), NONE_SUCH)
            self.assertEqual(grown(q, b + [0] * (16385 - len(b))), TOO_LONG)
            self.assertEqual(grown(q, [0] * 16385), TOO_LONG)


if __name__ == "__main__":
    unittest.main()
