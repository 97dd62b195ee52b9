"""What holds of every call: the refusals' order, the answers' form, nothing changed and nothing kept."""

import unittest

from beadbodies.bodies import judge, open_side, size
from tests.oracle import TETRAHEDRON, corner_lines, mesh_text, signs

TEXT_CALLS = (judge, size, open_side)

TEXTS = ["", "v 1 2 3\n", corner_lines(4) + mesh_text([], TETRAHEDRON), corner_lines(4) + "t 1 2 3\n",
         "x", "v 1 2 65536\n", corner_lines(64), corner_lines(65), "v 1 2 3\n" * 2048, "v 1 2 3\n" * 2049]


class TooLong(unittest.TestCase):
    def test_16384_bytes_are_looked_into(self):
        text = signs("v 1 2 3\n" * 2048)
        self.assertEqual(len(text), 16384)
        self.assertEqual(judge(text), [-6, 0, 1, 512])
        self.assertEqual(size(text), [-6, 0, 0])
        self.assertEqual(open_side(text), [-6, 0, 0])

    def test_16385_bytes_are_refused_whatever_they_are(self):
        for text in (signs("v 1 2 3\n" * 2048) + [10], [0] * 16385, [255] * 16385, [118] * 16500, [49] * 16385):
            for call in TEXT_CALLS:
                self.assertEqual(call(text), [-2, 0, 0])

    def test_long_texts_at_fault_early_and_late(self):
        for length in (16383, 16384):
            self.assertEqual(judge([0] * length), [-6, 0, 1, 0])
            self.assertEqual(judge(signs("v ") + [49] * (length - 2)), [-6, 0, 1, 7])
            self.assertEqual(judge(signs("v ") + [48] * (length - 2)), [-6, 0, 1, 3])
            longest = signs("v 65535 65535 65535\n" * 64 + "t 63 62 61\n" * 128)
            text = longest + [10] * (length - len(longest))
            self.assertEqual(judge(text), [-6, 0, 1, len(longest)])


class Answers(unittest.TestCase):
    def test_lists_of_plain_whole_numbers(self):
        for text in TEXTS:
            for call in TEXT_CALLS:
                answer = call(signs(text))
                self.assertIs(type(answer), list)
                self.assertEqual({type(number) for number in answer}, {int})

    def test_counts_fit_what_is_told(self):
        for text in TEXTS:
            for call in TEXT_CALLS:
                answer = call(signs(text))
                self.assertEqual(answer[1], 0)
                self.assertEqual(answer[2], len(answer) - 3)

    def test_places_are_told_by_judge_alone(self):
        for text in ("x", "v 1 2 3", "v 1 2 65536\n", corner_lines(65), corner_lines(2) + "t 0 1 2\n"):
            self.assertEqual(judge(signs(text))[:3], [-6, 0, 1])
            self.assertEqual(size(signs(text)), [-6, 0, 0])
            self.assertEqual(open_side(signs(text)), [-6, 0, 0])


class NothingKept(unittest.TestCase):
    def test_what_is_handed_in_stays_as_it_was(self):
        for text in TEXTS:
            for call in TEXT_CALLS:
                handed = signs(text)
                call(handed)
                self.assertEqual(handed, signs(text))

    def test_a_second_call_answers_as_the_first(self):
        for call in TEXT_CALLS:
            first = [call(signs(text)) for text in TEXTS]
            again = [call(signs(text)) for text in reversed(TEXTS)]
            self.assertEqual(first, list(reversed(again)))

    def test_an_answer_is_the_callers_own(self):
        for text in TEXTS:
            for call in TEXT_CALLS:
                handed = signs(text)
                answer = call(handed)
                kept = list(answer)
                answer.append(7)
                answer[0] = 99
                self.assertEqual(call(handed), kept)
                self.assertEqual(handed, signs(text))

    def test_what_is_handed_in_is_not_changed_for_a_while_either(self):
        class Guarded(list):
            def refuse(self, *given):
                raise AssertionError("changed")

            __setitem__ = __delitem__ = __iadd__ = __imul__ = refuse
            append = extend = insert = pop = remove = clear = sort = reverse = refuse

        for text in TEXTS:
            for call in TEXT_CALLS:
                self.assertEqual(call(Guarded(signs(text))), call(signs(text)))


if __name__ == "__main__":
    unittest.main()
