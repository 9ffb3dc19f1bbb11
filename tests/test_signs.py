"""[1.8] signs, with its part of [2.2], [2.3] and [2.4]."""

import itertools
import unittest

from helpers import ROWS, SIGNS, read_all, read_steps, reader_of, signs_of, write_all, write_steps

LAYER = ("signs",)
TEXT = "-0123456789ABCDEFGHIJKLMNOPQRSTUVWXYZ_abcdefghijklmnopqrstuvwxyz"


def bytes_of(text):
    return [ord(sign) for sign in text]


class TestWriting(unittest.TestCase):
    def test_none_to_five_bytes(self):
        self.assertEqual(write_all(LAYER, []), [])
        self.assertEqual(write_all(LAYER, [255]), bytes_of("zk"))
        self.assertEqual(write_all(LAYER, [255, 255]), bytes_of("zzw"))
        self.assertEqual(write_all(LAYER, [255, 255, 255]), bytes_of("zzzz"))
        self.assertEqual(write_all(LAYER, [255, 255, 255, 1]), bytes_of("zzzz-F"))
        self.assertEqual(write_all(LAYER, [255, 255, 255, 1, 1]), bytes_of("zzzz-F3"))

    def test_bytes_of_nought(self):
        for length, signs in enumerate([0, 2, 3, 4, 6, 7, 8]):
            self.assertEqual(write_all(LAYER, [0] * length), bytes_of("-" * signs))

    def test_all_64_signs(self):
        """The groups 0 to 63 in their order, three bytes for four of them."""
        row = []
        for first in range(0, 64, 4):
            number = first * 64 ** 3 + (first + 1) * 64 ** 2 + (first + 2) * 64 + first + 3
            row += list(number.to_bytes(3, "big"))
        self.assertEqual(write_all(LAYER, row), bytes_of(TEXT))
        self.assertEqual(read_all(LAYER, bytes_of(TEXT)), (row, None, None))
        self.assertEqual(len(set(TEXT)), 64)
        self.assertEqual(bytes_of(TEXT), SIGNS)

    def test_each_group_is_told_as_soon_as_its_digits_are_there(self):
        told = write_steps(LAYER, [255, 255, 255, 1, 1])
        self.assertEqual(told, [bytes_of(text) for text in ("z", "z", "zz", "-", "F", "3")])
        self.assertEqual(write_steps(LAYER, [255]), [bytes_of("z"), bytes_of("k")])
        self.assertEqual(write_steps(LAYER, [255] * 3), [bytes_of(text) for text in ("z", "z", "zz", "")])

    def test_every_byte_by_itself(self):
        for byte in range(256):
            signs = [SIGNS[byte // 4], SIGNS[byte % 4 * 16]]
            self.assertEqual(write_all(LAYER, [byte]), signs)
            self.assertEqual(read_all(LAYER, signs), ([byte], None, None))

    def test_like_signs_of_another_order(self):
        for row in ROWS:
            self.assertEqual(write_all(LAYER, row), signs_of(row))


class TestReading(unittest.TestCase):
    def test_each_byte_is_told_as_soon_as_its_digits_are_there(self):
        told = read_steps(LAYER, bytes_of("zzzz-F3"))
        rows = [[], [255], [255], [255], [], [1], [1], []]
        self.assertEqual(told, [(row, None) for row in rows])

    def test_no_bytes(self):
        self.assertEqual(read_all(LAYER, []), ([], None, None))

    def test_wrong_at_a_byte_that_is_no_sign(self):
        for byte in range(256):
            if byte in SIGNS:
                continue
            for length in range(6):
                wrong = ("wrong", 5, length)
                told = [0, 0, 0, 0][:length * 6 // 8]
                self.assertEqual(read_all(LAYER, [45] * length + [byte, 45], 5), (told, wrong, wrong))

    def test_each_sign_may_stand_at_each_place(self):
        for sign in SIGNS:
            for place in range(4):
                signs = [45] * place + [sign] + [45] * (3 - place)
                told, fault, last_fault = read_all(LAYER, signs)
                self.assertEqual((len(told), fault, last_fault), (3, None, None))

    def test_cut_behind_a_first_sign_of_four(self):
        for sign in SIGNS:
            self.assertEqual(read_all(LAYER, [sign], 3), ([], None, ("cut", 3)))
            self.assertEqual(read_all(LAYER, bytes_of("zzzz") + [sign], 3), ([255] * 3, None, ("cut", 3)))

    def test_last_digits_that_are_not_0(self):
        for group in range(64):
            fault = ("wrong", 3, 1) if group % 16 else None
            self.assertEqual(read_all(LAYER, [45, SIGNS[group]], 3), ([group // 16], None, fault))
            fault = ("wrong", 3, 6) if group % 4 else None
            signs = bytes_of("----") + [45, 45, SIGNS[group]]
            self.assertEqual(read_all(LAYER, signs, 3), ([0, 0, 0, 0, group // 4], None, fault))

    def test_first_fault_stays(self):
        reader = reader_of(LAYER, 1)
        self.assertEqual(reader.take(bytes_of("zz")), ([255], None))
        self.assertEqual(reader.take(bytes_of("z+zz")), ([255], ("wrong", 1, 3)))
        self.assertEqual(reader.take(bytes_of("zzzz")), ([], ("wrong", 1, 3)))
        self.assertEqual(reader.end(), ([], ("wrong", 1, 3)))

    def test_each_stream_has_one_form(self):
        """All streams of up to three of some signs: just those that are written are read without a fault."""
        signs = [SIGNS[group] for group in (0, 1, 2, 4, 16, 48, 63)]
        for length in range(4):
            for stream in itertools.product(signs, repeat=length):
                told, fault, last_fault = read_all(LAYER, list(stream))
                self.assertIsNone(fault)
                self.assertEqual(last_fault is None, write_all(LAYER, told) == list(stream))


if __name__ == "__main__":
    unittest.main()
