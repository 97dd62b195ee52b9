import random
import unittest

from beadbodies.bodies import draw, read
from tests.oracle import (BYTES_AT_FAULT, GREATEST, GRIDS, NONE_SUCH, NOT_THERE, TOO_LONG, all_cells, body_signs,
                          drawing, random_cells, signs, told_body, told_bytes)

BODY = body_signs((3, 2, 2), {(0, 0, 0), (2, 0, 0), (1, 1, 0), (2, 1, 1)})
MORE_GRIDS = GRIDS + [(4, 9, 3), (11, 2, 8), (1, 2, 3), (3, 1, 2)]


def at(place):
    return [-8, 0, 1, place]


def drawing_fault(wide, deep, text):
    """The first place where no drawing goes on, found by trying every sign there could be."""
    patterns = (["#."] * wide + ["\n"]) * deep
    for place, pattern in enumerate(patterns):
        if place == len(text) or text[place] not in pattern:
            return place
    return len(patterns) if len(text) > len(patterns) else None


class Read(unittest.TestCase):
    def test_written_out(self):
        self.assertEqual(read(1, BODY, signs("##.\n..#\n")), [9, 9, *BODY[:7], 0b11010101, 0b1000, 0])
        self.assertEqual(read(0, BODY, signs("...\n##.\n")), [9, 9, *BODY[:7], 0b00011000, 0b1000, 0])

    def test_layers_drawn_anew(self):
        chance = random.Random(47)
        for grid in MORE_GRIDS:
            cells = random_cells(chance, grid, 0.5)
            for z in sorted({0, grid[2] // 2, grid[2] - 1}):
                for anew in (set(), set(all_cells(grid)), random_cells(chance, grid, 0.5)):
                    text = drawing(grid, anew, z)
                    expected = {cell for cell in cells if cell[2] != z} | {cell for cell in anew if cell[2] == z}
                    answer = read(z, body_signs(grid, cells), text)
                    self.assertEqual(told_body(answer), (grid, expected))
                    self.assertEqual(told_bytes(draw(z, told_bytes(answer))), text)

    def test_each_cell_by_itself(self):
        for grid in ((2, 3, 4), (4, 3, 2), (5, 1, 3)):
            for cell in all_cells(grid):
                answer = read(cell[2], body_signs(grid, set()), drawing(grid, {cell}, cell[2]))
                self.assertEqual(told_body(answer), (grid, {cell}))

    def test_what_draw_tells_gives_the_bodys_own_bytes(self):
        chance = random.Random(48)
        for grid in MORE_GRIDS:
            b = body_signs(grid, random_cells(chance, grid, chance.random()))
            for z in range(grid[2]):
                self.assertEqual(told_bytes(read(z, b, told_bytes(draw(z, b)))), b)

    def test_all_layers_one_by_one(self):
        chance = random.Random(49)
        for grid in MORE_GRIDS:
            told = body_signs(grid, random_cells(chance, grid, 0.5))
            cells = random_cells(chance, grid, 0.5)
            for z in chance.sample(range(grid[2]), grid[2]):
                told = told_bytes(read(z, told, drawing(grid, cells, z)))
            self.assertEqual(told, body_signs(grid, cells))


class Faults(unittest.TestCase):
    def test_written_out(self):
        for text, place in (("", 0), ("#", 1), ("#.#", 3), ("#.#\n", 4), ("#.#\n.#.", 7), ("#.#\n.#.\n\n", 8),
                            ("#.#\n.#.\n.", 8), ("#.#\n.#.\n#.#\n", 8), ("#.#.\n.#.\n", 3), ("#.\n.#.\n", 2),
                            ("\n#.#\n.#.\n", 0), ("#x#\n.#.\n", 1), ("#.#\r\n.#.\n", 3), ("#.# \n.#.\n", 3),
                            ("#.#.#.", 3), ("x", 0), ("#.#\n\n", 4), ("##\n##\n##\n", 2)):
            for z in (0, 1):
                self.assertEqual(read(z, BODY, signs(text)), at(place), text)

    def test_a_drawing_of_another_layer_form(self):
        text = signs("#.#\n.#.\n")
        for grid, place in (((2, 3, 1), 2), ((4, 2, 1), 3), ((3, 1, 1), 4), ((3, 3, 1), 8), ((1, 4, 1), 1),
                            ((8, 1, 1), 3)):
            self.assertEqual(read(0, body_signs(grid, set()), text), at(place))

    def test_each_place_with_every_other_sign(self):
        for grid in ((3, 2, 2), (1, 1, 1), (1, 3, 1), (4, 1, 2)):
            b = body_signs(grid, set())
            text = drawing(grid, {(0, 0, 0)}, 0)
            for place in range(len(text)):
                good = {10} if place % (grid[0] + 1) == grid[0] else {35, 46}
                for byte in set(range(256)) - good:
                    self.assertEqual(read(0, b, text[:place] + [byte] + text[place + 1:]), at(place))

    def test_every_early_end(self):
        for grid in ((3, 2, 2), (12, 12, 12), (1, 1, 1)):
            text = drawing(grid, set(all_cells(grid)), 0)
            for end in range(len(text)):
                self.assertEqual(read(0, body_signs(grid, set()), text[:end]), at(end))

    def test_too_much(self):
        for grid in ((3, 2, 2), (12, 12, 12), (1, 1, 1)):
            text = drawing(grid, set(), 0)
            for extra in ([10], [35], [46], [0], text, [46] * (16384 - len(text))):
                self.assertEqual(read(0, body_signs(grid, set()), text + extra), at(len(text)))

    def test_a_line_feed_too_early_and_one_missing(self):
        grid = (5, 4, 1)
        text = drawing(grid, {(1, 1, 0)}, 0)
        for place in range(len(text)):
            if place % 6 == 5:
                missing = text[:place] + text[place + 1:]
                self.assertEqual(read(0, body_signs(grid, set()), missing), at(place))
            else:
                early = text[:place] + [10] + text[place:]
                self.assertEqual(read(0, body_signs(grid, set()), early), at(place))

    def test_a_fault_behind_another_one(self):
        self.assertEqual(read(0, BODY, signs("#x#\nx#.\n")), at(1))
        self.assertEqual(read(0, BODY, signs("#x#")), at(1))
        self.assertEqual(read(0, BODY, signs("#.#\n.#x\nx")), at(6))
        self.assertEqual(read(0, BODY, signs("#.#\n.#.x\n")), at(7))

    def test_like_the_oracle(self):
        chance = random.Random(50)
        for turn in range(3000):
            grid = (chance.randrange(1, 5), chance.randrange(1, 4), 2)
            text = "".join(map(chr, drawing(grid, random_cells(chance, grid, 0.5), 0)))
            for change in range(chance.randrange(4)):
                place = chance.randrange(len(text) + 1)
                text = text[:place] + chance.choice(["", *"#.\n x"]) + text[place + chance.randrange(2):]
            place = drawing_fault(grid[0], grid[1], text)
            answer = read(1, body_signs(grid, set()), signs(text))
            if place is None:
                self.assertEqual(told_bytes(draw(1, told_bytes(answer))), signs(text))
            else:
                self.assertEqual(answer, at(place), (grid, text))


class Refusals(unittest.TestCase):
    GOOD = signs("#.#\n.#.\n")
    TEXTS = [GOOD, [], [0], GOOD + [10], [46] * 16384]
    LONG = [[0] * 16385, GOOD + [10] * 16377, BODY + [0] * 16400, [46] * 16500]

    def test_too_long_ahead_of_all(self):
        for long in self.LONG:
            for z in (0, 1, 2, GREATEST):
                for text in self.TEXTS:
                    self.assertEqual(read(z, long, text), TOO_LONG)
                for b in BYTES_AT_FAULT + [BODY]:
                    self.assertEqual(read(z, b, long), TOO_LONG)
                self.assertEqual(read(z, long, long), TOO_LONG)

    def test_16384_bytes_are_looked_into(self):
        self.assertEqual(read(0, BODY + [0] * (16384 - len(BODY)), self.GOOD), NONE_SUCH)
        self.assertEqual(read(0, BODY, self.GOOD + [10] * (16384 - 8)), at(8))
        self.assertEqual(read(0, BODY, [35] * 16384), at(3))

    def test_a_fault_of_b_ahead_of_the_rest(self):
        for b in BYTES_AT_FAULT:
            for z in (0, 12, GREATEST):
                for text in self.TEXTS:
                    self.assertEqual(read(z, b, text), NONE_SUCH)

    def test_no_such_layer_ahead_of_a_fault_of_t(self):
        for z in (2, 3, 12, 255, 2 ** 32, GREATEST):
            for text in self.TEXTS:
                self.assertEqual(read(z, BODY, text), NOT_THERE)
        self.assertEqual(read(1, BODY, []), at(0))

    def test_at_and_above_high(self):
        for grid in ((3, 2, 1), (3, 2, 12), (3, 2, 7)):
            b = body_signs(grid, set())
            self.assertGreater(read(grid[2] - 1, b, self.GOOD)[0], 0)
            self.assertEqual(read(grid[2], b, self.GOOD), NOT_THERE)


if __name__ == "__main__":
    unittest.main()
