import random
import unittest

from beadbodies.bodies import bodyjudge
from beadbodies.solids import bytes_of, read_body
from tests.oracle import BYTES_AT_FAULT, GRIDS, TOO_LONG, all_cells, body_fault, body_signs, random_cells

BODY = [0, 0, 0]
# One grid for each count of bits left over.
LEFT_OVER = [(2, 2, 2), (1, 1, 7), (1, 2, 3), (5, 1, 1), (1, 4, 3), (11, 1, 1), (5, 2, 1), (3, 3, 1)]


def fault(kind, place):
    return [-6, 0, 2, kind, place]


class Bodies(unittest.TestCase):
    def test_bytes_of_bodies(self):
        chance = random.Random(22)
        for grid in GRIDS + LEFT_OVER:
            for cells in (set(), set(all_cells(grid)), random_cells(chance, grid, 0.5)):
                self.assertEqual(bodyjudge(body_signs(grid, cells)), BODY)

    def test_every_grid(self):
        for grid in all_cells((12, 12, 12)):
            sides = tuple(number + 1 for number in grid)
            self.assertEqual(bodyjudge(body_signs(sides, {(0, 0, 0)})), BODY)

    def test_each_cell_by_its_bit(self):
        for grid in ((3, 2, 4), (5, 3, 1)):
            for number, (x, y, z) in enumerate(all_cells(grid)):
                body = read_body(body_signs(grid, {(x, y, z)}))
                self.assertEqual(body.marks, [int(k == number) for k in range(len(body.marks))])
                self.assertEqual(body.grid.cell_number(x, y, z), number)

    def test_bytes_and_bodies_are_one_to_one(self):
        chance = random.Random(23)
        for grid in GRIDS + LEFT_OVER:
            for turn in range(5):
                b = body_signs(grid, random_cells(chance, grid, chance.random()))
                self.assertEqual(bytes_of(read_body(b)), b)


class Faults(unittest.TestCase):
    def expect(self, b, kind, place):
        self.assertEqual(bodyjudge(b), fault(kind, place), b[:20])

    def test_fewer_than_7_bytes(self):
        for length in range(7):
            self.expect(body_signs((2, 2, 2), set())[:length], 1, 0)
            self.expect([0] * length, 1, 0)
            self.expect([66, 68, 66, 49, 0, 0, 0][:length], 1, 0)

    def test_another_mark(self):
        for place in range(4):
            for byte in range(256):
                b = body_signs((2, 3, 4), {(1, 2, 3)})
                if byte != b[place]:
                    b[place] = byte
                    self.expect(b, 1, 0)

    def test_each_side(self):
        for place in (4, 5, 6):
            for byte in [0] + list(range(13, 256)):
                b = body_signs((2, 3, 4), {(1, 2, 3)})
                b[place] = byte
                self.expect(b, 2, place)

    def test_another_length(self):
        for grid in GRIDS + LEFT_OVER:
            b = body_signs(grid, set(all_cells(grid)))
            self.expect(b[:-1], 1, 4)
            for extra in (0, 1, 255):
                self.expect(b + [extra], 1, 4)
            self.expect(b[:7], 1, 4)
            self.expect(b + [0] * (16384 - len(b)), 1, 4)

    def test_each_bit_left_over(self):
        for grid in LEFT_OVER + [(12, 11, 3), (5, 5, 5)]:
            count = grid[0] * grid[1] * grid[2]
            for cells in (set(), set(all_cells(grid))):
                for bit in range(count, -(-count // 8) * 8):
                    b = body_signs(grid, cells)
                    b[7 + bit // 8] += 1 << bit % 8
                    self.expect(b, 3, len(b) - 1)

    def test_where_the_last_byte_is(self):
        self.expect([66, 68, 66, 49, 1, 1, 1, 2], 3, 7)
        self.expect([66, 68, 66, 49, 1, 1, 1, 128], 3, 7)
        self.expect([66, 68, 66, 49, 3, 3, 1, 255, 3], 3, 8)
        self.expect([66, 68, 66, 49, 1, 1, 1, 255], 3, 7)

    def test_another_grid_of_the_same_length(self):
        # 4 by 2 by 1 fills its byte, 7 by 1 by 1 leaves its highest bit over.
        self.assertEqual(bodyjudge([66, 68, 66, 49, 4, 2, 1, 255]), BODY)
        self.expect([66, 68, 66, 49, 7, 1, 1, 255], 3, 7)


class FirstFault(unittest.TestCase):
    def expect(self, b, kind, place):
        self.assertEqual(bodyjudge(b), fault(kind, place), b[:20])

    def test_the_mark_ahead_of_all(self):
        self.expect([66, 68, 66, 48, 0, 0, 0, 0], 1, 0)
        self.expect([0, 68, 66, 49, 1, 1, 1], 1, 0)
        self.expect([66, 68, 66, 0, 1, 1, 1, 2], 1, 0)
        self.expect([66, 68, 66, 49, 0, 13], 1, 0)

    def test_the_sides_in_their_order(self):
        self.expect([66, 68, 66, 49, 0, 0, 0, 1], 2, 4)
        self.expect([66, 68, 66, 49, 13, 1, 0, 1], 2, 4)
        self.expect([66, 68, 66, 49, 1, 13, 0, 1], 2, 5)
        self.expect([66, 68, 66, 49, 1, 0, 13, 1], 2, 5)

    def test_a_side_ahead_of_the_length(self):
        self.expect([66, 68, 66, 49, 1, 1, 13], 2, 6)
        self.expect([66, 68, 66, 49, 0, 1, 1], 2, 4)
        self.expect([66, 68, 66, 49, 0, 1, 1, 1, 1, 1], 2, 4)

    def test_the_length_ahead_of_bits(self):
        self.expect([66, 68, 66, 49, 1, 1, 1, 255, 255], 1, 4)
        self.expect([66, 68, 66, 49, 3, 3, 1, 255], 1, 4)

    def test_like_the_oracle(self):
        chance = random.Random(24)
        seen = set()
        for turn in range(6000):
            grid = chance.choice([(1, 1, 1), (2, 2, 2), (3, 3, 1), (1, 2, 3), (5, 1, 2)])
            b = body_signs(grid, random_cells(chance, grid, 0.5))
            for change in range(chance.randrange(4)):
                sort = chance.randrange(8)
                if sort == 0:
                    b = b[:-1]
                elif sort == 1:
                    b = b + [chance.choice([0, 1, 255])]
                elif b:
                    place = min(chance.choice([4, 5, 6, 7, 7, 8, chance.randrange(9)]), len(b) - 1)
                    b[place] = chance.choice([0, 1, 2, 3, 12, 13, 255, chance.randrange(256)])
            expected = body_fault(b)
            self.assertEqual(bodyjudge(b), BODY if expected is None else fault(*expected), b)
            seen.add(tuple(expected or ()))
        self.assertLessEqual({(), (1, 0), (2, 4), (2, 5), (2, 6), (1, 4), (3, 7), (3, 8)}, seen)

    def test_the_bytes_of_the_other_tests_that_are_no_bodys(self):
        for b in BYTES_AT_FAULT:
            self.assertEqual(bodyjudge(b), fault(*body_fault(b)))


class TooLong(unittest.TestCase):
    def test_16384_and_16385_bytes(self):
        b = body_signs((12, 12, 12), set())
        self.assertEqual(bodyjudge(b + [0] * (16384 - len(b))), fault(1, 4))
        self.assertEqual(bodyjudge([0] * 16384), fault(1, 0))
        self.assertEqual(bodyjudge([66, 68, 66, 49, 0] + [0] * 16379), fault(2, 4))
        for long in (b + [0] * (16385 - len(b)), [0] * 16385, [66, 68, 66, 49, 0] + [0] * 16495):
            self.assertEqual(bodyjudge(long), TOO_LONG)


if __name__ == "__main__":
    unittest.main()
