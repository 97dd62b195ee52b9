"""A1 to A5, over many meshes and bodies and over the whole program."""

import itertools
import random
import unittest

from beadbodies.bodies import (bodyboth, bodyjudge, bodysize, both, cells, draw, filled, grown, inside, judge, piece,
                               read, shrunk, turned)
from tests.oracle import (all_cells, are_neighbours, body_fault, body_signs, fault_place, mesh_signs, random_cells,
                          random_closed, signs, told_body, told_bytes, told_mesh)

GOOD = [0, 0, 0]


def random_grid(chance, most):
    return tuple(chance.randrange(1, most + 1) for axis in range(3))


def random_mesh(chance):
    count = chance.randrange(65)
    corners = [tuple(chance.choice([0, 9, 10, 65535, chance.randrange(65536)]) for axis in range(3))
               for corner in range(count)]
    most = chance.randrange(129) if count > 2 else 0
    return corners, [tuple(chance.sample(range(count), 3)) for triangle in range(most)]


def random_bodies(chance, turns, most):
    for turn in range(turns):
        grid = random_grid(chance, most)
        yield grid, random_cells(chance, grid, chance.choice([0.1, 0.5, 0.9]))


class A1(unittest.TestCase):
    def test_texts_and_meshes_are_one_to_one(self):
        chance = random.Random(51)
        for turn in range(60):
            mesh = random_mesh(chance)
            text = mesh_signs(mesh)
            self.assertEqual(judge(text), GOOD)
            for answer in (both(text, []), both([], text), turned(0, text)):
                self.assertEqual(told_mesh(answer), mesh)
                self.assertEqual(told_bytes(answer), text)

    def test_a_text_has_one_first_fault(self):
        chance = random.Random(52)
        for turn in range(300):
            count = chance.randrange(3, 14)
            corners = [(k, 10 * k, 65535) for k in range(count)]
            text = mesh_signs((corners, [tuple(chance.sample(range(count), 3)) for three in range(2)]))
            place = chance.randrange(len(text))
            text[place] = chance.choice(signs("0123456789 \nvt"))
            found = fault_place("".join(map(chr, text)))
            self.assertEqual(judge(text), GOOD if found is None else [-6, 0, 1, found])
            if found is not None and found < len(text):
                self.assertEqual(judge(text[:found + 1] + [chance.randrange(256)] * 9), [-6, 0, 1, found])

    def test_bytes_and_bodies_are_one_to_one(self):
        chance = random.Random(53)
        for grid, found in random_bodies(chance, 60, 12):
            b = body_signs(grid, found)
            self.assertEqual(bodyjudge(b), GOOD)
            self.assertEqual(bodysize(b)[3:7], [*grid, len(found)])
            for answer in (bodyboth(0, b, b), bodyboth(1, b, b), grown(0, b), shrunk(0, b)):
                self.assertEqual(told_bytes(answer), b)

    def test_bytes_have_one_first_fault(self):
        chance = random.Random(54)
        for grid, found in random_bodies(chance, 200, 4):
            b = body_signs(grid, found)
            b[chance.randrange(len(b))] = chance.randrange(256)
            fault = body_fault(b)
            self.assertEqual(bodyjudge(b), GOOD if fault is None else [-6, 0, 2, *fault])

    def test_drawings_and_layers_are_one_to_one(self):
        grid = (3, 2, 2)
        empty = body_signs(grid, set())
        drawings = set()
        for marks in itertools.product((False, True), repeat=6):
            layer = {cell for cell, mark in zip(all_cells((3, 2, 1)), marks) if mark}
            drawn = told_bytes(draw(0, body_signs(grid, layer)))
            self.assertEqual(told_body(read(0, empty, drawn)), (grid, layer))
            drawings.add(tuple(drawn))
        self.assertEqual(len(drawings), 64)


class A2AndA3(unittest.TestCase):
    def test_all_looks_tell_what_cells_tells(self):
        chance = random.Random(55)
        for turn in range(25):
            most, c = chance.choice([(12, 2), (24, 2), (20, 3), (65535, 5461)])
            text = mesh_signs(random_closed(chance, most, chance.randrange(4, 12), chance.randrange(1, 10)))
            grid = random_grid(chance, 12)
            told = told_body(cells(c, *grid, text))[1]
            for cell in chance.sample(all_cells(grid), min(12, len(all_cells(grid)))):
                for look in range(6):
                    self.assertEqual(inside(c, *cell, look, text), [int(cell in told), 0, 0])

    def test_put_together_is_just_one(self):
        chance = random.Random(56)
        for turn in range(25):
            grid = random_grid(chance, 12)
            first, second = [mesh_signs(random_closed(chance, 24, 9, 5)) for mesh in range(2)]
            told = [told_bytes(cells(2, *grid, text)) for text in (first, second)]
            self.assertEqual(cells(2, *grid, told_bytes(both(first, second))), bodyboth(3, *told))
            self.assertEqual(cells(2, *grid, told_bytes(both(second, first))), bodyboth(3, *told))

    def test_the_order_of_corners_and_of_triangles_says_nothing(self):
        chance = random.Random(57)
        for turn in range(25):
            corners, triangles = random_closed(chance, 24, 9, 6)
            told = cells(2, 12, 12, 12, mesh_signs((corners, triangles)))
            mixed = [tuple(chance.sample(three, 3)) for three in chance.sample(triangles, len(triangles))]
            self.assertEqual(cells(2, 12, 12, 12, mesh_signs((corners, mixed))), told)


class A4(unittest.TestCase):
    def test_grown_and_shrunk(self):
        chance = random.Random(58)
        for grid, found in random_bodies(chance, 60, 12):
            b = body_signs(grid, found)
            q, more = sorted(chance.choice([1, 2, 4, 5, 8, chance.randrange(201)]) for reach in range(2))
            wide, wider = told_body(grown(q, b))[1], told_body(grown(more, b))[1]
            narrow = told_body(shrunk(q, b))[1]
            self.assertTrue(narrow <= found <= wide <= wider)
            self.assertLessEqual(told_body(grown(q, told_bytes(shrunk(q, b))))[1], found)


class A5(unittest.TestCase):
    def test_of_one_piece_just_if_steps_lead_there(self):
        chance = random.Random(59)
        for grid, found in random_bodies(chance, 40, 4):
            b = body_signs(grid, found)
            numbers = {cell: piece(*cell, b)[0] for cell in found}
            reached = {cell: {cell} for cell in found}
            for middle in found:
                for cell in found:
                    if are_neighbours(cell, middle):
                        whole = reached[cell] | reached[middle]
                        for other in whole:
                            reached[other] = whole
            for cell, other in itertools.product(found, repeat=2):
                self.assertEqual(numbers[cell] == numbers[other], other in reached[cell])

    def test_filled_twice_is_filled(self):
        chance = random.Random(60)
        for grid, found in random_bodies(chance, 60, 12):
            once = filled(body_signs(grid, found))
            self.assertLessEqual(found, told_body(once)[1])
            self.assertEqual(filled(told_bytes(once)), once)


class Together(unittest.TestCase):
    def test_a_mesh_drawn_layer_by_layer(self):
        chance = random.Random(61)
        for turn in range(10):
            grid = random_grid(chance, 12)
            b = told_bytes(cells(2, *grid, mesh_signs(random_closed(chance, 24, 9, 6))))
            copy = body_signs(grid, random_cells(chance, grid, 0.5))
            for z in range(grid[2]):
                copy = told_bytes(read(z, copy, told_bytes(draw(z, b))))
            self.assertEqual(copy, b)


if __name__ == "__main__":
    unittest.main()
