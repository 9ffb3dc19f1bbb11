"""What holds for all four layers: [0.1] nothing is changed or kept; what is written is read again."""

import unittest

from helpers import LAYERS, ROWS, pieces_of, read_pieces, reader_of, write_all, write_pieces, writer_of

STREAM_WITH_FAULT = {"escape": [0, 253, 254, 255, 0], "runs": [1, 1, 0]}


class TestThereAndBack(unittest.TestCase):
    def test_whatever_the_pieces(self):
        for layer in LAYERS:
            for row in ROWS:
                with self.subTest(layer=layer, length=len(row)):
                    stream = write_all(layer, row)
                    for pieces in pieces_of(row):
                        self.assertEqual(write_pieces(layer, pieces), stream)
                    for pieces in pieces_of(stream):
                        self.assertEqual(read_pieces(layer, pieces), (row, None, None))

    def test_what_is_told_is_the_beginning_of_what_was_written(self):
        for layer in LAYERS:
            for row in ROWS:
                reader = reader_of(layer)
                told = []
                for byte in write_all(layer, row):
                    told += reader.take([byte])[0]
                    self.assertEqual(told, row[:len(told)])

    def test_streams_hold_bytes_alone(self):
        for layer in LAYERS:
            for row in ROWS:
                for byte in write_all(layer, row):
                    self.assertIs(type(byte), int)
                    self.assertTrue(0 <= byte <= 255)


class TestKinds(unittest.TestCase):
    def test_a_writer_tells_lists(self):
        for layer in LAYERS:
            writer = writer_of(layer)
            self.assertIs(type(writer.take([1, 2, 2])), list)
            self.assertIs(type(writer.take([])), list)
            self.assertIs(type(writer.end()), list)

    def test_a_reader_tells_pairs_of_a_list_and_a_fault(self):
        for layer in LAYERS:
            stream = STREAM_WITH_FAULT.get(layer[0], [1, 2])
            reader = reader_of(layer)
            for told in [reader.take([]), reader.take(stream), reader.end()]:
                self.assertIs(type(told), tuple)
                self.assertEqual(len(told), 2)
                self.assertIs(type(told[0]), list)
                self.assertIn(type(told[1]), (tuple, type(None)))


class TestNothingIsChangedOrKept(unittest.TestCase):
    def test_lists_handed_to_a_writer_are_unchanged(self):
        for layer in LAYERS:
            for row in ROWS:
                handed = list(row)
                writer = writer_of(layer)
                writer.take(handed)
                writer.end()
                self.assertEqual(handed, row)

    def test_lists_handed_to_a_reader_are_unchanged(self):
        for layer in LAYERS:
            for stream in ROWS + list(STREAM_WITH_FAULT.values()):
                handed = list(stream)
                reader = reader_of(layer)
                reader.take(handed)
                reader.end()
                self.assertEqual(handed, stream)

    def test_lists_handed_to_a_writer_are_not_kept(self):
        for layer in LAYERS:
            for row in ROWS:
                writer = writer_of(layer)
                handed = list(row)
                told = list(writer.take(handed))
                handed[:] = [77, 78, 79]
                self.assertEqual(told + writer.take(row) + writer.end(), write_all(layer, row + row))

    def test_lists_handed_to_a_reader_are_not_kept(self):
        for layer in LAYERS:
            for row in ROWS:
                stream = write_all(layer, row + row)
                half = len(stream) // 2
                reader = reader_of(layer)
                handed = stream[:half]
                told = list(reader.take(handed)[0])
                handed[:] = [77, 78, 79]
                self.assertEqual(told + reader.take(stream[half:])[0], row + row)

    def test_lists_told_by_a_writer_are_new(self):
        """Spoiling each list that was told changes nothing of what is told behind it."""
        for layer in LAYERS:
            for row in ROWS:
                writer = writer_of(layer)
                copies, lists = [], []
                for piece in [row, [], row, row]:
                    self.take_apart(writer.take(piece), piece, copies, lists)
                self.take_apart(writer.end(), None, copies, lists)
                self.assertEqual(copies, write_all(layer, row * 3))

    def test_lists_told_by_a_reader_are_new(self):
        for layer in LAYERS:
            for row in ROWS:
                reader = reader_of(layer)
                copies, lists = [], []
                for piece in [write_all(layer, row), []]:
                    self.take_apart(reader.take(piece)[0], piece, copies, lists)
                self.take_apart(reader.end()[0], None, copies, lists)
                self.assertEqual(copies, row)

    def test_lists_told_with_a_fault_are_new(self):
        for layer in LAYERS:
            if layer[0] in STREAM_WITH_FAULT:
                reader = reader_of(layer)
                copies, lists = [], []
                for piece in [STREAM_WITH_FAULT[layer[0]], [1], [1]]:
                    self.take_apart(reader.take(piece)[0], piece, copies, lists)
                length = len(copies)
                self.take_apart(reader.end()[0], None, copies, lists)
                self.assertEqual(len(copies), length)

    def take_apart(self, told, handed, copies, lists):
        self.assertIsNot(told, handed)
        for other in lists:
            self.assertIsNot(told, other)
        copies.extend(told)
        lists.append(told)
        told[:] = [66, 67, 68]

    def test_writers_and_readers_of_one_layer_share_nothing(self):
        for layer in LAYERS:
            for row in ROWS:
                stream = write_all(layer, row)
                one, other = writer_of(layer), writer_of(layer)
                one.take([3, 3, 200])
                self.assertEqual(other.take(row) + other.end(), stream)
                one, other = reader_of(layer), reader_of(layer)
                one.take([3, 3, 200])
                self.assertEqual((other.take(stream), other.end()), ((row, None), ([], None)))


if __name__ == "__main__":
    unittest.main()
