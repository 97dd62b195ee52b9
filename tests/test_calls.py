"""What holds of every call: the refusals' order, the answers' form, nothing changed and nothing kept."""

import inspect
import unittest

from beadbodies.bodies import (bodyboth, bodyjudge, bodysize, both, cells, draw, filled, grown, inside, judge,
                               open_side, piece, read, shrunk, size, turned)
from tests.oracle import (BYTES_AT_FAULT, GREATEST, TETRAHEDRON, TEXTS_AT_FAULT, Guarded, all_cells, body_signs, box,
                          corner_lines, mesh_signs, mesh_text, signs)

TEXT_CALLS = (judge, size, open_side)
BODY_CALLS = (bodyjudge, bodysize, filled)
# How many numbers a refusal tells, of the calls where it tells some.
TOLD_WITH = {(judge, -6): 1, (bodyjudge, -6): 2, (read, -8): 1}

INTERFACE = {judge: "t", size: "t", open_side: "t", both: "t s", turned: "k t", inside: "c x y z look t",
             cells: "c wide deep high t", bodyjudge: "b", bodysize: "b", piece: "x y z b", bodyboth: "how b d",
             grown: "q b", shrunk: "q b", filled: "b", draw: "z b", read: "z b t"}

BOX = mesh_signs(box((0, 0, 0), (9, 9, 9)))
HOLED = corner_lines(4) + "t 1 2 3\n"
TEXTS = [signs(text) for text in ["", "v 1 2 3\n", corner_lines(4) + mesh_text([], TETRAHEDRON), HOLED,
                                  corner_lines(64), "v 1 2 3\n" * 2049] + TEXTS_AT_FAULT] + [BOX]
# The kinds of answers there are, of a call that takes two of them.
FEW_TEXTS = TEXTS[:6] + TEXTS[-2:]

ODD_BODY = body_signs((3, 4, 5), {cell for cell in all_cells((3, 4, 5)) if sum(cell) % 3 > 0})
BODIES = [body_signs((1, 1, 1), set()), body_signs((2, 2, 2), {(0, 0, 0), (1, 1, 1)}), ODD_BODY,
          body_signs((12, 12, 12), set(all_cells((12, 12, 12)))), [0] * 16385] + BYTES_AT_FAULT
DRAWINGS = [signs(text) for text in (".\n", "#\n", "#.\n.#\n", "##.\n" * 4, "##.\n" * 3, "", ("#" * 12 + "\n") * 12,
                                     "." * 16384, "." * 16385)]


def samples():
    """Calls, and what is handed to each: all kinds of answers and of refusals."""
    found = [(call, (text,)) for call in TEXT_CALLS for text in TEXTS]
    found += [(both, (text, other)) for text in FEW_TEXTS for other in FEW_TEXTS]
    found += [(turned, (k, text)) for k in (0, 1, 23, 24, GREATEST) for text in TEXTS]
    for numbers in ((2, 0, 0, 0, 0), (2, 11, 0, 0, 5), (0, 0, 0, 0, 0), (1, 12, 0, 0, 0), (GREATEST,) * 5):
        found += [(inside, numbers + (text,)) for text in TEXTS]
    for numbers in ((2, 2, 3, 4), (1, 1, 1, 1), (0, 1, 1, 1), (1, 13, 1, 1), (GREATEST,) * 4):
        found += [(cells, numbers + (text,)) for text in TEXTS]
    found += [(call, (b,)) for call in BODY_CALLS for b in BODIES]
    for numbers in ((0, 0, 0), (1, 1, 1), (1, 0, 0), (2, 3, 4), (12, 0, 0), (GREATEST,) * 3):
        found += [(piece, numbers + (b,)) for b in BODIES]
    for how in (0, 1, 2, 3, 4, GREATEST):
        found += [(bodyboth, (how, b, b)) for b in BODIES]
        found += [(bodyboth, (how, b, d)) for b in BODIES[:6] for d in BODIES[:6]]
    found += [(call, (q, b)) for call in (grown, shrunk) for q in (0, 1, 5, 200, 201, GREATEST) for b in BODIES]
    for z in (0, 1, 4, 11, 12, GREATEST):
        found += [(draw, (z, b)) for b in BODIES]
        found += [(read, (z, b, text)) for b in BODIES for text in DRAWINGS]
    return found


SAMPLES = samples()


def copied(handed):
    return tuple(list(value) if isinstance(value, list) else value for value in handed)


class TooLong(unittest.TestCase):
    def test_16384_bytes_are_looked_into(self):
        text = signs("v 1 2 3\n" * 2048)
        self.assertEqual(len(text), 16384)
        self.assertEqual(judge(text), [-6, 0, 1, 512])
        self.assertEqual(size(text), [-6, 0, 0])
        self.assertEqual(open_side(text), [-6, 0, 0])

    def test_16385_bytes_are_refused_whatever_they_are(self):
        for text in (signs("v 1 2 3\n" * 2048) + [10], [0] * 16385, [255] * 16385, [118] * 16500, [49] * 16385):
            for call in TEXT_CALLS:
                self.assertEqual(call(text), [-2, 0, 0])

    def test_long_texts_at_fault_early_and_late(self):
        for length in (16383, 16384):
            self.assertEqual(judge([0] * length), [-6, 0, 1, 0])
            self.assertEqual(judge(signs("v ") + [49] * (length - 2)), [-6, 0, 1, 7])
            self.assertEqual(judge(signs("v ") + [48] * (length - 2)), [-6, 0, 1, 3])
            longest = signs("v 65535 65535 65535\n" * 64 + "t 63 62 61\n" * 128)
            text = longest + [10] * (length - len(longest))
            self.assertEqual(judge(text), [-6, 0, 1, len(longest)])


class Interface(unittest.TestCase):
    def test_names_and_arguments(self):
        for call, names in INTERFACE.items():
            self.assertEqual(list(inspect.signature(call).parameters), names.split(), call)
            self.assertEqual(call.__module__, "beadbodies.bodies")

    def test_every_call_is_among_the_samples(self):
        self.assertEqual({call for call, handed in SAMPLES}, set(INTERFACE))


class Answers(unittest.TestCase):
    def test_lists_of_plain_whole_numbers(self):
        for call, handed in SAMPLES:
            answer = call(*handed)
            self.assertIs(type(answer), list)
            self.assertEqual({type(number) for number in answer}, {int})

    def test_counts_fit_what_is_told(self):
        for call, handed in SAMPLES:
            answer = call(*handed)
            told = answer[1]
            self.assertEqual(answer[2 + told], len(answer) - 3 - told)
            if told > 0:
                self.assertEqual((answer[0], answer[-1]), (told, 0))
                self.assertTrue(all(0 <= byte <= 255 for byte in answer[2:-1]))

    def test_places_are_told_by_judge_bodyjudge_and_read_alone(self):
        for call, handed in SAMPLES:
            answer = call(*handed)
            if answer[0] < 0:
                self.assertEqual(answer[1:3], [0, TOLD_WITH.get((call, answer[0]), 0)], call)


class NothingKept(unittest.TestCase):
    def test_what_is_handed_in_stays_as_it_was(self):
        for call, handed in SAMPLES:
            kept = copied(handed)
            call(*handed)
            self.assertEqual(handed, kept)

    def test_a_second_call_answers_as_the_first(self):
        first = [call(*handed) for call, handed in SAMPLES]
        again = [call(*handed) for call, handed in reversed(SAMPLES)]
        self.assertEqual(first, list(reversed(again)))

    def test_an_answer_is_the_callers_own(self):
        for call, handed in SAMPLES:
            own = copied(handed)
            answer = call(*own)
            kept = list(answer)
            answer.append(7)
            answer[0] = 99
            self.assertEqual(own, handed)
            self.assertEqual(call(*own), kept)

    def test_what_is_handed_in_is_not_changed_for_a_while_either(self):
        for call, handed in SAMPLES:
            guarded = tuple(Guarded(value) if isinstance(value, list) else value for value in handed)
            self.assertEqual(call(*guarded), call(*handed))

    def test_one_list_may_be_handed_in_twice(self):
        self.assertEqual(both(BOX, BOX), both(list(BOX), list(BOX)))
        self.assertEqual(bodyboth(0, ODD_BODY, ODD_BODY), bodyboth(0, list(ODD_BODY), list(ODD_BODY)))
        self.assertEqual(read(0, ODD_BODY, ODD_BODY), [-8, 0, 1, 0])


if __name__ == "__main__":
    unittest.main()
