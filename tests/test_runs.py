"""[1.5] runs, with its part of [2.2], [2.3] and [2.4]."""

import itertools
import unittest

from helpers import read_all, reader_of, write_all, writer_of

RUNS = ("runs",)


class TestWriting(unittest.TestCase):
    def test_no_bytes(self):
        self.assertEqual(write_all(RUNS, []), [])

    def test_counts_of_one_byte(self):
        for byte in (0, 1, 9, 254, 255):
            with self.subTest(byte=byte):
                self.assertEqual(write_all(RUNS, [byte]), [1, byte])
                self.assertEqual(write_all(RUNS, [byte] * 2), [2, byte])
                self.assertEqual(write_all(RUNS, [byte] * 254), [254, byte])
                self.assertEqual(write_all(RUNS, [byte] * 255), [255, byte])
                self.assertEqual(write_all(RUNS, [byte] * 256), [255, byte, 1, byte])
                self.assertEqual(write_all(RUNS, [byte] * 510), [255, byte, 255, byte])
                self.assertEqual(write_all(RUNS, [byte] * 511), [255, byte, 255, byte, 1, byte])

    def test_several_runs(self):
        self.assertEqual(write_all(RUNS, [5, 5, 0, 5, 255, 255, 255]), [2, 5, 1, 0, 1, 5, 3, 255])
        self.assertEqual(write_all(RUNS, [0, 1, 0]), [1, 0, 1, 1, 1, 0])
        self.assertEqual(write_all(RUNS, [7] * 255 + [8]), [255, 7, 1, 8])
        self.assertEqual(write_all(RUNS, [7] * 256 + [8, 8]), [255, 7, 1, 7, 2, 8])

    def test_told_by_another_byte(self):
        writer = writer_of(RUNS)
        self.assertEqual(writer.take([4]), [])
        self.assertEqual(writer.take([4, 4]), [])
        self.assertEqual(writer.take([6]), [3, 4])
        self.assertEqual(writer.take([4]), [1, 6])
        self.assertEqual(writer.end(), [1, 4])

    def test_told_by_255_of_them(self):
        writer = writer_of(RUNS)
        self.assertEqual(writer.take([4] * 254), [])
        self.assertEqual(writer.take([4]), [255, 4])
        self.assertEqual(writer.take([4]), [])
        self.assertEqual(writer.take([4] * 253), [])
        self.assertEqual(writer.take([4, 5]), [255, 4])
        self.assertEqual(writer.end(), [1, 5])

    def test_nothing_at_the_end_behind_255_of_them(self):
        writer = writer_of(RUNS)
        self.assertEqual(writer.take([4] * 255), [255, 4])
        self.assertEqual(writer.end(), [])


class TestReading(unittest.TestCase):
    def test_no_bytes(self):
        self.assertEqual(read_all(RUNS, []), ([], None, None))

    def test_runs_are_told_with_their_second_byte(self):
        reader = reader_of(RUNS)
        told = [reader.take([byte]) for byte in [2, 5, 1, 0, 255, 255, 1, 255, 3, 5]]
        rows = [[], [5, 5], [], [0], [], [255] * 255, [], [255], [], [5] * 3]
        self.assertEqual(told, [(row, None) for row in rows])
        self.assertEqual(reader.end(), ([], None))

    def test_same_byte_behind_255_of_them(self):
        for count in (1, 2, 254, 255):
            with self.subTest(count=count):
                self.assertEqual(read_all(RUNS, [255, 8, count, 8]), ([8] * (255 + count), None, None))

    def test_wrong_at_a_count_of_nought(self):
        wrong = ("wrong", 3, 0)
        self.assertEqual(read_all(RUNS, [0, 5], 3), ([], wrong, wrong))
        self.assertEqual(read_all(RUNS, [0], 3), ([], wrong, wrong))
        wrong = ("wrong", 0, 4)
        self.assertEqual(read_all(RUNS, [2, 5, 1, 0, 0, 0, 1, 1]), ([5, 5, 0], wrong, wrong))
        self.assertEqual(read_all(RUNS, [255, 5, 255, 5, 0]), ([5] * 510, wrong, wrong))

    def test_wrong_at_the_same_byte_behind_a_shorter_run(self):
        for byte in (0, 5, 255):
            for count in (1, 2, 253, 254):
                for more in (1, 254, 255):
                    with self.subTest(byte=byte, count=count, more=more):
                        wrong = ("wrong", 6, 3)
                        told = read_all(RUNS, [count, byte, more, byte, 1, 9], 6)
                        self.assertEqual(told, ([byte] * count, wrong, wrong))

    def test_wrong_at_the_third_run_of_a_byte(self):
        wrong = ("wrong", 0, 5)
        self.assertEqual(read_all(RUNS, [255, 5, 1, 5, 1, 5]), ([5] * 256, wrong, wrong))
        self.assertEqual(read_all(RUNS, [255, 5, 255, 5, 1, 5]), ([5] * 511, None, None))

    def test_another_byte_between_is_fine(self):
        self.assertEqual(read_all(RUNS, [1, 5, 1, 6, 1, 5]), ([5, 6, 5], None, None))

    def test_wrong_place_is_counted_over_pieces(self):
        reader = reader_of(RUNS, 1)
        self.assertEqual(reader.take([1]), ([], None))
        self.assertEqual(reader.take([5, 1]), ([5], None))
        self.assertEqual(reader.take([]), ([], None))
        self.assertEqual(reader.take([5, 1, 7]), ([], ("wrong", 1, 3)))

    def test_cut_behind_a_count(self):
        self.assertEqual(read_all(RUNS, [1], 2), ([], None, ("cut", 2)))
        self.assertEqual(read_all(RUNS, [255], 2), ([], None, ("cut", 2)))
        self.assertEqual(read_all(RUNS, [3, 9, 255]), ([9] * 3, None, ("cut", 0)))

    def test_first_fault_stays(self):
        reader = reader_of(RUNS, 4)
        self.assertEqual(reader.take([1, 2, 0]), ([2], ("wrong", 4, 2)))
        self.assertEqual(reader.take([1, 7, 0, 3]), ([], ("wrong", 4, 2)))
        self.assertEqual(reader.take([]), ([], ("wrong", 4, 2)))
        self.assertEqual(reader.end(), ([], ("wrong", 4, 2)))


class TestOneForm(unittest.TestCase):
    def test_faults_just_where_no_written_stream_goes_on(self):
        """All short streams of a few numbers, beside the streams that are written of up to three runs of these."""
        numbers = (0, 1, 2, 255)
        runs = [[byte] * count for count in (1, 2, 255) for byte in numbers]
        rows = [sum(some, []) for length in range(4) for some in itertools.product(runs, repeat=length)]
        whole = {tuple(write_all(RUNS, row)): row for row in rows}
        begun = {stream[:length] for stream in whole for length in range(len(stream) + 1)}
        for stream in [stream for length in range(7) for stream in itertools.product(numbers, repeat=length)]:
            told, fault, last_fault = read_all(RUNS, list(stream))
            bad = [place for place in range(len(stream)) if stream[:place + 1] not in begun]
            if bad:
                self.assertEqual((stream, fault, last_fault), (stream,) + (("wrong", 0, bad[0]),) * 2)
            elif stream not in whole:
                self.assertEqual((stream, fault, last_fault), (stream, None, ("cut", 0)))
            else:
                self.assertEqual((told, fault, last_fault), (whole[stream], None, None))

    def test_like_the_words_of_the_document(self):
        for row in ([1, 1, 2] * 5, [3] * 1000, [3] * 700 + [4] * 300 + [3] * 2):
            counted = []
            for byte, group in itertools.groupby(row):
                count = len(list(group))
                for first in range(0, count, 255):
                    counted += [min(255, count - first), byte]
            self.assertEqual(write_all(RUNS, row), counted)


if __name__ == "__main__":
    unittest.main()
