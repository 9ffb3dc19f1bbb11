"""[1.4] escape, with its part of [2.2], [2.3] and [2.4]."""

import itertools
import unittest

from helpers import ROWS, read_all, reader_of, write_all, writer_of

# b with the bytes c, d, e behind it, by 256 round.
MARKS = [(0, 1, 2, 3), (100, 101, 102, 103), (252, 253, 254, 255), (253, 254, 255, 0), (254, 255, 0, 1), (255, 0, 1, 2)]


class TestWriting(unittest.TestCase):
    def test_marks_and_others(self):
        for b, c, d, e in MARKS:
            with self.subTest(b=b):
                layer = ("escape", b)
                self.assertEqual(write_all(layer, [b]), [c, d])
                self.assertEqual(write_all(layer, [c]), [c, e])
                self.assertEqual(write_all(layer, [d, e, 50]), [d, e, 50])
                self.assertEqual(write_all(layer, [c, b, d, b, b, e, c]), [c, e, c, d, d, c, d, c, d, e, c, e])

    def test_all_other_bytes_as_they_are(self):
        for b, c, d, e in MARKS:
            others = [byte for byte in range(256) if byte not in (b, c)]
            self.assertEqual(write_all(("escape", b), others), others)

    def test_no_bytes(self):
        self.assertEqual(write_all(("escape", 5), []), [])

    def test_byte_b_is_kept_out(self):
        for b in range(256):
            self.assertNotIn(b, write_all(("escape", b), list(range(256)) * 2))

    def test_told_at_once(self):
        writer = writer_of(("escape", 255))
        told = [writer.take([byte]) for byte in [255, 0, 1, 2, 7]]
        self.assertEqual(told, [[0, 1], [0, 2], [1], [2], [7]])
        self.assertEqual(writer.end(), [])


class TestReading(unittest.TestCase):
    def test_marks_and_others(self):
        for b, c, d, e in MARKS:
            with self.subTest(b=b):
                told = read_all(("escape", b), [c, d, c, e, d, e, 50])
                self.assertEqual(told, ([b, c, d, e, 50], None, None))

    def test_told_at_once(self):
        reader = reader_of(("escape", 254))
        told = [reader.take([byte]) for byte in [255, 0, 255, 1, 0, 1, 7]]
        rows = [[], [254], [], [255], [0], [1], [7]]
        self.assertEqual(told, [(row, None) for row in rows])
        self.assertEqual(reader.end(), ([], None))

    def test_wrong_at_a_byte_b(self):
        for b, c, d, e in MARKS:
            with self.subTest(b=b):
                layer = ("escape", b)
                wrong = ("wrong", 2, 0)
                self.assertEqual(read_all(layer, [b, 50], 2), ([], wrong, wrong))
                wrong = ("wrong", 0, 4)
                self.assertEqual(read_all(layer, [50, c, d, d, b, 50]), ([50, b, d], wrong, wrong))

    def test_wrong_behind_c(self):
        for b, c, d, e in MARKS:
            for byte in range(256):
                if byte not in (d, e):
                    wrong = ("wrong", 7, 2)
                    self.assertEqual(read_all(("escape", b), [50, c, byte, d], 7), ([50], wrong, wrong))

    def test_wrong_place_is_counted_over_pieces(self):
        reader = reader_of(("escape", 9), 1)
        self.assertEqual(reader.take([1, 2, 10]), ([1, 2], None))
        self.assertEqual(reader.take([]), ([], None))
        self.assertEqual(reader.take([11, 9, 3]), ([9], ("wrong", 1, 4)))

    def test_cut_behind_c(self):
        for b, c, d, e in MARKS:
            with self.subTest(b=b):
                self.assertEqual(read_all(("escape", b), [c], 3), ([], None, ("cut", 3)))
                self.assertEqual(read_all(("escape", b), [50, c, d, c]), ([50, b], None, ("cut", 0)))

    def test_first_fault_stays(self):
        reader = reader_of(("escape", 9), 4)
        self.assertEqual(reader.take([10, 50]), ([], ("wrong", 4, 1)))
        self.assertEqual(reader.take([11, 1, 9]), ([], ("wrong", 4, 1)))
        self.assertEqual(reader.take([]), ([], ("wrong", 4, 1)))
        self.assertEqual(reader.end(), ([], ("wrong", 4, 1)))


class TestOneForm(unittest.TestCase):
    def test_faults_just_where_no_written_stream_goes_on(self):
        """All short streams of the marks and one other byte, beside all streams that are written."""
        for b, c, d, e in MARKS:
            signs = (b, c, d, e, 50)
            rows = [row for length in range(6) for row in itertools.product(signs, repeat=length)]
            whole = {tuple(write_all(("escape", b), list(row))): list(row) for row in rows}
            begun = {stream[:length] for stream in whole for length in range(len(stream) + 1)}
            streams = [stream for length in range(5) for stream in itertools.product(signs, repeat=length)]
            for stream in streams:
                told, fault, last_fault = read_all(("escape", b), list(stream))
                bad = [place for place in range(len(stream)) if stream[:place + 1] not in begun]
                if bad:
                    self.assertEqual((fault, last_fault), (("wrong", 0, bad[0]),) * 2)
                elif stream not in whole:
                    self.assertEqual((fault, last_fault), (None, ("cut", 0)))
                else:
                    self.assertEqual((told, fault, last_fault), (whole[stream], None, None))

    def test_rows_written_and_read(self):
        for b in range(256):
            for row in ROWS:
                self.assertEqual(read_all(("escape", b), write_all(("escape", b), row)), (row, None, None))


if __name__ == "__main__":
    unittest.main()
