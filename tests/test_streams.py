"""What holds for each layer by itself and for stacks: [0.1] nothing is changed or kept; what is written is read again."""

import unittest

from helpers import (
    LAYERS, ROWS, STACKS, pieces_of, read_all, read_pieces, reader_of, write_all, write_pieces, writer_of
)

BOTH = LAYERS + STACKS

# Each stream has a fault for the layers of its name, behind at least one byte that is told or held.
STREAMS_WITH_FAULT = [
    (("escape", 0), [7, 8, 0, 9]),
    (("runs",), [1, 1, 0]),
    (("chunks", 3), [3, 7, 7, 7, 4]),
    (("checks", 1), [7, 0, 8, 7, 7, 7]),
    (("signs",), [48, 48, 48, 0]),
    ([("runs",)], [1, 1, 0]),
    ([("chunks", 2), ("runs",)], [3, 2, 1, 9]),
    ([("signs",), ("checks", 1)], [48, 0, 49, 48, 48, 48]),
]


class TestThereAndBack(unittest.TestCase):
    def test_whatever_the_pieces(self):
        for layer in BOTH:
            for row in ROWS:
                with self.subTest(layer=layer, length=len(row)):
                    stream = write_all(layer, row)
                    for pieces in pieces_of(row):
                        self.assertEqual(write_pieces(layer, pieces), stream)
                    for pieces in pieces_of(stream):
                        self.assertEqual(read_pieces(layer, pieces), (row, None, None))

    def test_what_is_told_is_the_beginning_of_what_was_written(self):
        for layer in BOTH:
            for row in ROWS[:6] + ROWS[-2:]:
                reader = reader_of(layer)
                told = []
                for byte in write_all(layer, row):
                    some, fault = reader.take([byte])
                    told += some
                    self.assertIsNone(fault)
                    self.assertEqual(some, row[len(told) - len(some):len(told)])
                self.assertEqual((told + reader.end()[0]), row)

    def test_streams_hold_bytes_alone(self):
        for layer in BOTH:
            for row in ROWS:
                for byte in write_all(layer, row):
                    self.assertIs(type(byte), int)
                    self.assertTrue(0 <= byte <= 255)


class TestKinds(unittest.TestCase):
    def test_a_writer_tells_lists(self):
        for layer in BOTH:
            writer = writer_of(layer)
            self.assertIs(type(writer.take([1, 2, 2])), list)
            self.assertIs(type(writer.take([])), list)
            self.assertIs(type(writer.end()), list)

    def assert_pair(self, told, fault_kinds):
        self.assertIs(type(told), tuple)
        self.assertEqual(len(told), 2)
        self.assertIs(type(told[0]), list)
        self.assertIn(type(told[1]), fault_kinds)

    def test_a_reader_tells_pairs_of_a_list_and_none(self):
        for layer in BOTH:
            reader = reader_of(layer)
            for piece in [[], write_all(layer, [1, 2, 2])]:
                self.assert_pair(reader.take(piece), (type(None),))
            self.assert_pair(reader.end(), (type(None),))

    def test_a_reader_tells_pairs_of_a_list_and_a_fault(self):
        for layer, stream in STREAMS_WITH_FAULT:
            with self.subTest(layer=layer):
                reader = reader_of(layer)
                self.assert_pair(reader.take(stream), (tuple,))
                self.assert_pair(reader.take([]), (tuple,))
                self.assert_pair(reader.end(), (tuple,))


class TestNothingIsChangedOrKept(unittest.TestCase):
    def test_lists_handed_to_a_writer_are_unchanged(self):
        for layer in BOTH:
            for row in ROWS:
                handed = list(row)
                writer = writer_of(layer)
                writer.take(handed)
                writer.end()
                self.assertEqual(handed, row)

    def test_lists_handed_to_a_reader_are_unchanged(self):
        for layer in BOTH:
            for row in ROWS:
                self.assert_stream_is_unchanged(layer, write_all(layer, row))
        for layer, stream in STREAMS_WITH_FAULT:
            self.assert_stream_is_unchanged(layer, stream)

    def assert_stream_is_unchanged(self, layer, stream):
        handed = list(stream)
        reader = reader_of(layer)
        reader.take(handed)
        reader.end()
        self.assertEqual(handed, stream)

    def test_lists_handed_to_a_writer_are_not_kept(self):
        for layer in BOTH:
            for row in ROWS:
                writer = writer_of(layer)
                handed = list(row)
                told = list(writer.take(handed))
                handed[:] = [77, 78, 79]
                self.assertEqual(told + writer.take(row) + writer.end(), write_all(layer, row + row))

    def test_lists_handed_to_a_reader_are_not_kept(self):
        for layer in BOTH:
            for row in ROWS:
                stream = write_all(layer, row + row)
                half = len(stream) // 2
                reader = reader_of(layer)
                handed = stream[:half]
                told = list(reader.take(handed)[0])
                handed[:] = [77, 78, 79]
                self.assertEqual(told + reader.take(stream[half:])[0] + reader.end()[0], row + row)

    def test_lists_told_by_a_writer_are_new(self):
        """Spoiling each list that was told changes nothing of what is told behind it."""
        for layer in BOTH:
            for row in ROWS:
                writer = writer_of(layer)
                copies, lists = [], []
                for piece in [row, [], row, row]:
                    self.take_apart(writer.take(piece), piece, copies, lists)
                self.take_apart(writer.end(), None, copies, lists)
                self.assertEqual(copies, write_all(layer, row * 3))

    def test_lists_told_by_a_reader_are_new(self):
        for layer in BOTH:
            for row in ROWS:
                reader = reader_of(layer)
                copies, lists = [], []
                for piece in [write_all(layer, row), []]:
                    self.take_apart(reader.take(piece)[0], piece, copies, lists)
                self.take_apart(reader.end()[0], None, copies, lists)
                self.assertEqual(copies, row)

    def test_lists_told_with_a_fault_are_new(self):
        for layer, stream in STREAMS_WITH_FAULT:
            with self.subTest(layer=layer):
                reader = reader_of(layer)
                copies, lists = [], []
                self.take_apart(reader.take(stream)[0], stream, copies, lists)
                length = len(copies)
                for piece in [[1], [1]]:
                    self.take_apart(reader.take(piece)[0], piece, copies, lists)
                self.take_apart(reader.end()[0], None, copies, lists)
                self.assertEqual(len(copies), length)

    def take_apart(self, told, handed, copies, lists):
        self.assertIsNot(told, handed)
        for other in lists:
            self.assertIsNot(told, other)
        copies.extend(told)
        lists.append(told)
        told[:] = [66, 67, 68]

    def test_writers_and_readers_of_one_layer_share_nothing(self):
        for layer in BOTH:
            for row in ROWS:
                stream = write_all(layer, row)
                one, other = writer_of(layer), writer_of(layer)
                one.take([3, 3, 200])
                self.assertEqual(other.take(row) + other.end(), stream)
                one, other = reader_of(layer), reader_of(layer)
                one.take(stream[:1] + [3, 3, 200])
                told, fault = other.take(stream)
                one.end()
                last, last_fault = other.end()
                self.assertEqual((told + last, fault, last_fault), (row, None, None))

    def test_a_fault_of_one_reader_is_not_one_of_another(self):
        for layer, stream in STREAMS_WITH_FAULT:
            with self.subTest(layer=layer):
                one, other = reader_of(layer), reader_of(layer)
                self.assertIsNotNone(one.take(stream)[1])
                good = write_all(layer, [1, 2])
                self.assertIsNone(other.take(good)[1])
                self.assertIsNone(other.end()[1])
                self.assertEqual(read_all(layer, good), ([1, 2], None, None))


if __name__ == "__main__":
    unittest.main()
