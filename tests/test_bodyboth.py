import itertools
import random
import unittest

from beadbodies.bodies import bodyboth
from tests.oracle import (BYTES_AT_FAULT, GREATEST, GRIDS, NONE_SUCH, OUT_OF_RANGE, TOO_LONG, UNFIT, all_cells,
                          body_signs, random_cells, told_body)

HOWS = [set.union, set.intersection, set.difference, set.symmetric_difference]
LONG = [[0] * 16385, body_signs((1, 1, 1), set()) + [0] * 16377, [66] * 16500]


class BodyBoth(unittest.TestCase):
    def expect(self, grid, first, second):
        for how in range(4):
            answer = bodyboth(how, body_signs(grid, first), body_signs(grid, second))
            self.assertEqual(told_body(answer), (grid, HOWS[how](first, second)))

    def test_written_out(self):
        b = [66, 68, 66, 49, 2, 2, 1, 0b0011]
        d = [66, 68, 66, 49, 2, 2, 1, 0b0101]
        for how, bits in enumerate((0b0111, 0b0001, 0b0010, 0b0110)):
            self.assertEqual(bodyboth(how, b, d), [8, 8, 66, 68, 66, 49, 2, 2, 1, bits, 0])
        self.assertEqual(bodyboth(2, d, b), [8, 8, 66, 68, 66, 49, 2, 2, 1, 0b0100, 0])

    def test_with_none_and_all(self):
        for grid in GRIDS:
            none, every = set(), set(all_cells(grid))
            for first, second in itertools.product((none, every), repeat=2):
                self.expect(grid, first, second)

    def test_random_bodies(self):
        chance = random.Random(30)
        for grid in GRIDS + [(3, 3, 1), (1, 2, 5), (11, 1, 1), (2, 3, 2), (11, 7, 5)]:
            for turn in range(3):
                self.expect(grid, random_cells(chance, grid, 0.5), random_cells(chance, grid, 0.5))

    def test_with_itself(self):
        chance = random.Random(31)
        for grid in GRIDS:
            cells = random_cells(chance, grid, 0.5)
            b = body_signs(grid, cells)
            for how, expected in enumerate((cells, cells, set(), set())):
                self.assertEqual(told_body(bodyboth(how, b, b)), (grid, expected))


class Refusals(unittest.TestCase):
    def test_other_grids(self):
        grid = (3, 4, 6)
        for other in ((2, 4, 6), (3, 5, 6), (3, 4, 5), (4, 3, 6), (6, 4, 3), (3, 6, 4), (12, 6, 1), (2, 6, 6),
                      (1, 6, 12), (12, 12, 12), (1, 1, 1)):
            for how in (0, 1, 2, 3, 4, GREATEST):
                b, d = body_signs(grid, set()), body_signs(other, set())
                self.assertEqual(bodyboth(how, b, d), UNFIT)
                self.assertEqual(bodyboth(how, d, b), UNFIT)

    def test_how_above_3(self):
        b = body_signs((2, 3, 4), {(0, 0, 0)})
        self.assertEqual(told_body(bodyboth(3, b, b)), ((2, 3, 4), set()))
        for how in (4, 5, 8, 255, 2 ** 32, GREATEST):
            self.assertEqual(bodyboth(how, b, b), OUT_OF_RANGE)

    def test_a_fault_in_the_first_in_the_second_in_both(self):
        good = body_signs((2, 2, 2), set())
        for b in BYTES_AT_FAULT:
            for how in (0, 3, 4, GREATEST):
                self.assertEqual(bodyboth(how, b, good), NONE_SUCH)
                self.assertEqual(bodyboth(how, good, b), NONE_SUCH)
            for d in BYTES_AT_FAULT:
                self.assertEqual(bodyboth(0, b, d), NONE_SUCH)

    def test_too_long_ahead_of_a_fault(self):
        for other in BYTES_AT_FAULT + [body_signs((1, 1, 1), set())]:
            for long in LONG:
                for how in (0, 4):
                    self.assertEqual(bodyboth(how, long, other), TOO_LONG)
                    self.assertEqual(bodyboth(how, other, long), TOO_LONG)
                    self.assertEqual(bodyboth(how, long, long), TOO_LONG)

    def test_16384_bytes_are_looked_into(self):
        good = body_signs((2, 2, 2), set())
        long = good + [0] * (16384 - len(good))
        self.assertEqual(bodyboth(0, long, good), NONE_SUCH)
        self.assertEqual(bodyboth(0, good, long), NONE_SUCH)
        self.assertEqual(bodyboth(0, long, long), NONE_SUCH)


if __name__ == "__main__":
    unittest.main()
