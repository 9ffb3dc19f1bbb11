"""[1.2] add and [1.3] front."""

import unittest

from helpers import ROWS, places_of, read_all, reader_of, write_all, writer_of

KEY_OF_8 = ("add", 1, 2, 3, 4, 5, 6, 7, 255)


class TestAdd(unittest.TestCase):
    def test_key_of_one_byte(self):
        self.assertEqual(write_all(("add", 3), [0, 1, 2, 252, 253, 255]), [3, 4, 5, 255, 0, 2])

    def test_key_of_eight_bytes_begins_again(self):
        self.assertEqual(write_all(KEY_OF_8, [10] * 18), [11, 12, 13, 14, 15, 16, 17, 9] * 2 + [11, 12])

    def test_sums_past_255_go_round(self):
        self.assertEqual(write_all(("add", 255), [0, 1, 255]), [255, 0, 254])
        self.assertEqual(write_all(("add", 1, 128), [255, 128, 254, 127]), [0, 0, 255, 255])

    def test_key_of_noughts_changes_nothing(self):
        row = list(range(256))
        self.assertEqual(write_all(("add", 0, 0), row), row)

    def test_key_goes_on_over_pieces(self):
        writer = writer_of(("add", 1, 2, 3))
        self.assertEqual(writer.take([0, 0]), [1, 2])
        self.assertEqual(writer.take([]), [])
        self.assertEqual(writer.take([0, 0]), [3, 1])
        reader = reader_of(("add", 1, 2, 3))
        self.assertEqual(reader.take([1, 2]), ([0, 0], None))
        self.assertEqual(reader.take([3, 1]), ([0, 0], None))

    def test_two_writers_have_each_its_own_turn(self):
        one, other = writer_of(("add", 1, 2)), writer_of(("add", 1, 2))
        self.assertEqual([one.take([0]), other.take([0]), one.take([0])], [[1], [1], [2]])

    def test_reading_takes_the_key_off(self):
        self.assertEqual(read_all(("add", 3), [3, 0, 2, 255]), ([0, 253, 255, 252], None, None))

    def test_like_the_words_of_the_document(self):
        for layer in [("add", 200), ("add", 9, 250), KEY_OF_8]:
            key = layer[1:]
            for row in ROWS:
                with self.subTest(layer=layer, length=len(row)):
                    sums = [(byte + key[place % len(key)]) % 256 for place, byte in enumerate(row)]
                    self.assertEqual(write_all(layer, row), sums)


class TestFront(unittest.TestCase):
    def test_same_byte_twice_running_is_nought(self):
        self.assertEqual(write_all(("front",), [5, 5, 5]), [5, 0, 0])
        self.assertEqual(write_all(("front",), [0, 0]), [0, 0])

    def test_byte_255(self):
        self.assertEqual(write_all(("front",), [255, 255, 0, 254, 255]), [255, 0, 1, 255, 2])
        self.assertEqual(write_all(("front",), [255] * 3), [255, 0, 0])
        self.assertEqual(write_all(("front",), list(range(255, -1, -1))), [255] * 256)

    def test_bytes_ahead_move_back_by_one(self):
        self.assertEqual(write_all(("front",), [2, 0, 1, 2, 3]), [2, 1, 2, 2, 3])

    def test_places_behind_stay(self):
        self.assertEqual(write_all(("front",), [3, 200, 4]), [3, 200, 5])
        self.assertEqual(write_all(("front",), [3, 4, 200]), [3, 4, 200])

    def test_row_goes_on_over_pieces(self):
        writer = writer_of(("front",))
        self.assertEqual([writer.take([7]), writer.take([7, 0]), writer.end()], [[7], [0, 1], []])
        reader = reader_of(("front",))
        self.assertEqual(reader.take([7]), ([7], None))
        self.assertEqual(reader.take([0, 1]), ([7, 0], None))

    def test_two_writers_have_each_its_own_row(self):
        one, other = writer_of(("front",)), writer_of(("front",))
        self.assertEqual([one.take([9]), other.take([9]), one.take([9])], [[9], [9], [0]])

    def test_reading_tells_the_byte_at_the_place(self):
        self.assertEqual(read_all(("front",), [255, 0, 255, 1]), ([255, 255, 254, 255], None, None))

    def test_like_the_words_of_the_document(self):
        for row in ROWS:
            with self.subTest(length=len(row)):
                self.assertEqual(write_all(("front",), row), places_of(row))


class TestAtOnce(unittest.TestCase):
    """[2.2] and [2.3]: of each byte one byte is told at once, and none at the end."""

    def test_writing_and_reading(self):
        for layer in [("add", 1, 2), ("front",)]:
            writer, reader = writer_of(layer), reader_of(layer)
            for byte in [0, 255, 255, 3, 0]:
                with self.subTest(layer=layer, byte=byte):
                    written = writer.take([byte])
                    self.assertEqual(len(written), 1)
                    self.assertEqual(reader.take(written), ([byte], None))
            self.assertEqual(writer.end(), [])
            self.assertEqual(reader.end(), ([], None))

    def test_every_stream_can_be_read_and_has_one_form(self):
        """[2.4]: these layers have no fault, for any byte can come anywhere."""
        for layer in [("add", 255), ("add", 1, 2, 3), ("front",)]:
            for stream in ROWS:
                with self.subTest(layer=layer, length=len(stream)):
                    told, fault, last_fault = read_all(layer, stream)
                    self.assertEqual((fault, last_fault), (None, None))
                    self.assertEqual(write_all(layer, told), stream)


if __name__ == "__main__":
    unittest.main()
