import random
import unittest

from beadbodies.bodies import judge
from beadbodies.meshes import read_mesh
from tests.oracle import (TETRAHEDRON, begins_mesh, corner_lines, fault_place, is_mesh, mesh_text, signs)

MESH = [0, 0, 0]
TWELVE = corner_lines(12)
SAMPLE = "v 0 10 65535\nv 7 6553 205\nv 1 2 3\nv 40 50 60\nt 0 1 2\nt 3 2 0\n"
WIDE_SAMPLE = TWELVE + "t 10 1 11\nt 1 0 10\n"


def at(place):
    return [-6, 0, 1, place]


class JudgeCase(unittest.TestCase):
    def expect(self, text, answer):
        self.assertEqual(judge(signs(text)), answer, text[-80:])

    def expect_behind(self, front, rest, place):
        """The fault of front and rest, at that place of rest."""
        self.expect(front + rest, at(len(front) + place))

    def expect_like_oracle(self, text):
        place = fault_place(text)
        self.expect(text, MESH if place is None else at(place))


class Meshes(JudgeCase):
    def test_no_bytes(self):
        self.expect("", MESH)

    def test_corners_alone(self):
        self.expect("v 0 0 0\n", MESH)
        self.expect("v 65535 65535 65535\n", MESH)
        self.expect("v 10 200 3000\nv 10 200 3000\n", MESH)

    def test_corners_and_triangles(self):
        self.expect(SAMPLE, MESH)
        self.expect(WIDE_SAMPLE, MESH)
        self.expect(corner_lines(3) + "t 2 1 0\n", MESH)

    def test_a_triangle_told_twice(self):
        self.expect(corner_lines(3) + "t 0 1 2\nt 0 1 2\nt 2 1 0\n", MESH)

    def test_text_of_random_meshes_is_read_as_it_was_written(self):
        chance = random.Random(1)
        for count in list(range(3, 20)) + [63, 64]:
            corners = [tuple(chance.choice([0, 9, 10, 99, 65535, chance.randrange(65536)]) for axis in range(3))
                       for corner in range(count)]
            triangles = [tuple(chance.sample(range(count), 3)) for triangle in range(chance.randrange(129))]
            text = mesh_text(corners, triangles)
            self.expect(text, MESH)
            mesh = read_mesh(signs(text))
            self.assertEqual((mesh.corners, mesh.triangles), (corners, triangles))


class Lines(JudgeCase):
    def test_every_sign_replaced(self):
        for text in (SAMPLE, WIDE_SAMPLE):
            for place in range(len(text)):
                for sign in "0123456789 \nvtVx-+\t\r\0\xff/:":
                    self.expect_like_oracle(text[:place] + sign + text[place + 1:])

    def test_every_byte_in_front_and_behind(self):
        for byte in range(256):
            sign = chr(byte)
            self.expect_like_oracle(sign)
            self.expect_like_oracle("v" + sign)
            self.expect_like_oracle("v 1" + sign)
            self.expect_like_oracle(SAMPLE + sign)
            self.expect_like_oracle("v 1 2 3" + sign)

    def test_every_sign_left_out(self):
        for text in (SAMPLE, WIDE_SAMPLE):
            for place in range(len(text)):
                self.expect_like_oracle(text[:place] + text[place + 1:])

    def test_a_sign_put_in_at_every_place(self):
        for text in (SAMPLE, WIDE_SAMPLE):
            for place in range(len(text) + 1):
                for sign in "0123456789 \nvt.":
                    self.expect_like_oracle(text[:place] + sign + text[place:])

    def test_every_early_end(self):
        for text in (SAMPLE, WIDE_SAMPLE):
            for end in range(len(text) + 1):
                whole = end == 0 or text[end - 1] == "\n"
                self.expect(text[:end], MESH if whole else at(end))

    def test_written_out(self):
        self.expect("\n", at(0))
        self.expect(" v 1 2 3\n", at(0))
        self.expect("V 1 2 3\n", at(0))
        self.expect("v", at(1))
        self.expect("v1 2 3\n", at(1))
        self.expect("v  1 2 3\n", at(2))
        self.expect("v 1 2\n", at(5))
        self.expect("v 1 2 3 \n", at(7))
        self.expect("v 1 2 3 4\n", at(7))
        self.expect("v 1 2 3\r\n", at(7))
        self.expect("v 1 2 3", at(7))
        self.expect("v 1 2 3\n\n", at(8))
        self.expect("v -1 2 3\n", at(2))
        self.expect("v 1\t2 3\n", at(3))


class Coordinates(JudgeCase):
    def test_at_and_above_the_greatest(self):
        self.expect("v 65535 0 0\n", MESH)
        self.expect("v 65536 0 0\n", at(6))
        self.expect("v 65540 0 0\n", at(6))
        self.expect("v 0 65535 0\n", MESH)
        self.expect("v 0 65536 0\n", at(8))
        self.expect("v 0 0 65535\n", MESH)
        self.expect("v 0 0 65536\n", at(10))
        self.expect("v 9999 0 0\n", MESH)
        self.expect("v 99999 0 0\n", at(6))
        self.expect("v 100000 0 0\n", at(7))
        self.expect("v 655350 0 0\n", at(7))

    def test_noughts_in_front(self):
        self.expect("v 00 0 0\n", at(3))
        self.expect("v 01 0 0\n", at(3))
        self.expect("v 0 07 0\n", at(5))
        self.expect("v 0 0 00\n", at(7))
        self.expect("v 10 100 1000\n", MESH)

    def test_every_number_as_a_coordinate(self):
        for number in list(range(0, 1200)) + list(range(65500, 65700)) + [655350, 655360, 10 ** 30]:
            self.expect_like_oracle(f"v {number} {number} {number}\n")


class CornerNumbers(JudgeCase):
    def test_no_triangle_without_three_corners(self):
        for count in range(3):
            self.expect_behind(corner_lines(count), "t 0 1 2\n", 0)
        self.expect("t", at(0))
        self.expect(corner_lines(3) + "t 0 1 2\n", MESH)

    def test_a_number_that_no_corner_has(self):
        self.expect_behind(corner_lines(3), "t 3 1 2\n", 2)
        self.expect_behind(corner_lines(3), "t 0 3 2\n", 4)
        self.expect_behind(corner_lines(3), "t 0 1 3\n", 6)
        self.expect_behind(corner_lines(3), "t 10 1 2\n", 3)
        self.expect_behind(TWELVE, "t 12 1 2\n", 3)
        self.expect_behind(TWELVE, "t 20 1 2\n", 3)
        self.expect_behind(TWELVE, "t 110 1 2\n", 4)
        self.expect(TWELVE + "t 11 1 2\n", MESH)

    def test_noughts_in_front(self):
        self.expect_behind(TWELVE, "t 00 1 2\n", 3)
        self.expect_behind(TWELVE, "t 1 02 3\n", 5)
        self.expect_behind(TWELVE, "t 1 2 03\n", 7)

    def test_a_corner_twice(self):
        self.expect_behind(corner_lines(4), "t 1 1 2\n", 4)
        self.expect_behind(corner_lines(4), "t 1 2 1\n", 6)
        self.expect_behind(corner_lines(4), "t 2 1 1\n", 6)
        self.expect_behind(TWELVE, "t 0 0 1\n", 4)
        self.expect_behind(TWELVE, "t 1 0 0\n", 6)

    def test_a_corner_twice_that_might_have_gone_on(self):
        self.expect_behind(TWELVE, "t 1 1 2\n", 5)
        self.expect_behind(TWELVE, "t 1 2 1\n", 7)
        self.expect_behind(TWELVE, "t 1 1", 5)
        self.expect_behind(TWELVE, "t 1 1x", 5)
        self.expect_behind(TWELVE, "t 10 10 1\n", 6)
        self.expect(TWELVE + "t 1 11 10\n", MESH)
        self.expect_behind(TWELVE, "t 1 10 1\n", 8)
        self.expect_behind(TWELVE, "t 1 10 10\n", 8)

    def test_a_corner_twice_with_all_that_go_on_taken(self):
        self.expect_behind(corner_lines(11), "t 1 10 1\n", 7)
        self.expect_behind(corner_lines(11), "t 10 1 1\n", 7)
        self.expect_behind(corner_lines(11), "t 1 1 2\n", 5)
        self.expect_behind(corner_lines(10), "t 1 1 2\n", 4)
        self.expect_behind(corner_lines(51), "t 50 5 5", 7)
        self.expect_behind(corner_lines(52), "t 50 5 5", 8)

    def test_every_triangle_of_few_numbers(self):
        for count in (3, 4, 10, 11, 12):
            front = corner_lines(count)
            numbers = ["0", "1", "2", "9", "10", "11", "12", "01", "100"]
            for first in numbers:
                for second in numbers:
                    for third in numbers:
                        self.expect_like_oracle(front + f"t {first} {second} {third}\n")

    def test_64_corners(self):
        front = corner_lines(64)
        self.expect(front + "t 63 62 6\n", MESH)
        self.expect_behind(front, "t 64 1 2\n", 3)
        self.expect_behind(front, "t 70 1 2\n", 3)
        self.expect_behind(front, "t 6 63 6\n", 8)


class Order(JudgeCase):
    def test_a_corner_behind_a_triangle(self):
        front = corner_lines(3) + "t 0 1 2\n"
        self.expect_behind(front, "v 1 2 3\n", 0)
        self.expect_behind(front, "v", 0)
        self.expect_behind(front + "t 0 1 2\n", "v 1 2 3\nt 0 1 2\n", 0)

    def test_64_and_65_corners(self):
        self.expect(corner_lines(63), MESH)
        self.expect(corner_lines(64), MESH)
        self.expect_behind(corner_lines(64), "v 0 0 0\n", 0)
        self.expect_behind(corner_lines(64), "v", 0)

    def test_128_and_129_triangles(self):
        front = corner_lines(4) + mesh_text([], TETRAHEDRON) * 32
        self.expect(front[:-len("t 1 2 3\n")], MESH)
        self.expect(front, MESH)
        self.expect_behind(front, "t 0 1 2\n", 0)
        self.expect_behind(front, "t", 0)
        self.expect_behind(front, "v 0 0 0\n", 0)

    def test_the_longest_text(self):
        text = "v 65535 65535 65535\n" * 64 + "t 63 62 61\n" * 128
        self.expect(text, MESH)
        self.expect(text + "t", at(len(text)))
        self.expect(text[:-1], at(len(text) - 1))


class OneFirstFault(JudgeCase):
    def test_what_follows_the_fault_says_nothing(self):
        for text in ("v 1 2 65536", "w", corner_lines(3) + "t 0 0"):
            place = fault_place(text)
            for rest in ("", "\n", "v 1 2 3\n", "\0" * 100, "zz"):
                self.expect(text[:place + 1] + rest, at(place))

    def test_all_ahead_of_the_fault_begins_a_mesh(self):
        chance = random.Random(2)
        for turn in range(3000):
            text = chance.choice([SAMPLE, WIDE_SAMPLE])
            for change in range(chance.randrange(1, 4)):
                place = chance.randrange(len(text))
                text = text[:place] + chance.choice(["", *"0123456789 \nvt"]) + text[place + chance.randrange(2):]
            answer = judge(signs(text))
            if answer == MESH:
                self.assertTrue(is_mesh(text), text)
            else:
                place = answer[3]
                self.assertEqual(answer, at(place))
                self.assertFalse(is_mesh(text), text)
                self.assertTrue(begins_mesh(text[:place]), text)
                self.assertTrue(place == len(text) or not begins_mesh(text[:place + 1]), text)


if __name__ == "__main__":
    unittest.main()
