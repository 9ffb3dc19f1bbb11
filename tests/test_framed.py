"""[1.6] chunks and [1.7] checks, with their parts of [2.2], [2.3] and [2.4]."""

import itertools
import unittest

from helpers import ROWS, check_of, read_all, read_steps, reader_of, write_all, write_by_words, write_steps


class TestWritingChunks(unittest.TestCase):
    def test_no_bytes(self):
        for n in (1, 2, 255):
            self.assertEqual(write_all(("chunks", n), []), [0])

    def test_chunks_and_what_is_left(self):
        self.assertEqual(write_all(("chunks", 3), [7, 8]), [2, 7, 8])
        self.assertEqual(write_all(("chunks", 3), [7, 8, 9, 10]), [3, 7, 8, 9, 1, 10])
        self.assertEqual(write_all(("chunks", 3), [7, 8, 9, 10, 11]), [3, 7, 8, 9, 2, 10, 11])

    def test_a_last_chunk_of_nought(self):
        self.assertEqual(write_all(("chunks", 3), [7, 8, 9]), [3, 7, 8, 9, 0])
        self.assertEqual(write_all(("chunks", 2), [7, 8, 9, 0]), [2, 7, 8, 2, 9, 0, 0])

    def test_chunks_of_1(self):
        self.assertEqual(write_all(("chunks", 1), [7]), [1, 7, 0])
        self.assertEqual(write_all(("chunks", 1), [0, 255, 1]), [1, 0, 1, 255, 1, 1, 0])

    def test_chunks_of_255(self):
        row = list(range(255))
        self.assertEqual(write_all(("chunks", 255), row[:254]), [254] + row[:254])
        self.assertEqual(write_all(("chunks", 255), row), [255] + row + [0])
        self.assertEqual(write_all(("chunks", 255), row + [255]), [255] + row + [1, 255])
        self.assertEqual(write_all(("chunks", 255), row * 2), [255] + row + [255] + row + [0])

    def test_told_when_n_bytes_are_there(self):
        self.assertEqual(write_steps(("chunks", 3), [7, 8, 9, 10]), [[], [], [3, 7, 8, 9], [], [1, 10]])
        self.assertEqual(write_steps(("chunks", 2), [7, 8]), [[], [2, 7, 8], [0]])
        self.assertEqual(write_steps(("chunks", 1), [7, 8]), [[1, 7], [1, 8], [0]])

    def test_like_the_words_of_the_document(self):
        for n in (1, 2, 5, 100, 254, 255):
            for row in ROWS:
                told = [byte for _, byte in write_by_words(("chunks", n), row)]
                self.assertEqual(write_all(("chunks", n), row), told)


class TestReadingChunks(unittest.TestCase):
    def test_each_byte_is_told_at_once(self):
        told = read_steps(("chunks", 2), [2, 7, 8, 2, 0, 2, 1, 9])
        rows = [[], [7], [8], [], [0], [2], [], [9], []]
        self.assertEqual(told, [(row, None) for row in rows])

    def test_a_last_chunk_of_nought(self):
        self.assertEqual(read_all(("chunks", 2), [0]), ([], None, None))
        self.assertEqual(read_all(("chunks", 2), [2, 7, 8, 0]), ([7, 8], None, None))
        self.assertEqual(read_all(("chunks", 1), [1, 7, 0]), ([7], None, None))

    def test_wrong_at_a_length_above_n(self):
        for n in (1, 2, 100, 254):
            for length in (n + 1, 255):
                with self.subTest(n=n, length=length):
                    wrong = ("wrong", 3, 0)
                    self.assertEqual(read_all(("chunks", n), [length], 3), ([], wrong, wrong))
                    wrong = ("wrong", 3, n + 1)
                    stream = [n] + [255] * n + [length, 5, 5]
                    self.assertEqual(read_all(("chunks", n), stream, 3), ([255] * n, wrong, wrong))

    def test_no_length_is_above_255(self):
        self.assertEqual(read_all(("chunks", 255), [255] * 256 + [0]), ([255] * 255, None, None))

    def test_bytes_of_a_chunk_may_be_above_n(self):
        self.assertEqual(read_all(("chunks", 1), [1, 255, 1, 2, 0]), ([255, 2], None, None))

    def test_wrong_behind_the_last_chunk(self):
        for byte in (0, 1, 2, 3, 255):
            with self.subTest(byte=byte):
                wrong = ("wrong", 1, 1)
                self.assertEqual(read_all(("chunks", 2), [0, byte], 1), ([], wrong, wrong))
                wrong = ("wrong", 1, 2)
                self.assertEqual(read_all(("chunks", 2), [1, 9, byte, 2], 1), ([9], wrong, wrong))
                wrong = ("wrong", 1, 4)
                self.assertEqual(read_all(("chunks", 2), [2, 8, 9, 0, byte], 1), ([8, 9], wrong, wrong))

    def test_wrong_place_is_counted_over_pieces(self):
        reader = reader_of(("chunks", 2), 5)
        self.assertEqual(reader.take([2, 7]), ([7], None))
        self.assertEqual(reader.take([]), ([], None))
        self.assertEqual(reader.take([8, 3, 0]), ([8], ("wrong", 5, 3)))
        self.assertEqual(reader.take([0]), ([], ("wrong", 5, 3)))
        self.assertEqual(reader.end(), ([], ("wrong", 5, 3)))

    def test_cut_with_no_bytes_at_all(self):
        for n in (1, 2, 255):
            self.assertEqual(read_all(("chunks", n), [], 2), ([], None, ("cut", 2)))

    def test_cut_within_a_chunk(self):
        self.assertEqual(read_all(("chunks", 3), [3], 2), ([], None, ("cut", 2)))
        self.assertEqual(read_all(("chunks", 3), [3, 7, 8], 2), ([7, 8], None, ("cut", 2)))
        self.assertEqual(read_all(("chunks", 3), [2, 7], 2), ([7], None, ("cut", 2)))
        self.assertEqual(read_all(("chunks", 3), [1], 2), ([], None, ("cut", 2)))

    def test_cut_behind_a_full_chunk(self):
        self.assertEqual(read_all(("chunks", 3), [3, 7, 8, 9], 2), ([7, 8, 9], None, ("cut", 2)))
        self.assertEqual(read_all(("chunks", 1), [1, 0], 2), ([0], None, ("cut", 2)))

    def test_faults_just_where_no_written_stream_goes_on(self):
        """All short streams of a few numbers, beside all streams that are written of these."""
        numbers = (0, 1, 2, 3)
        for n in (1, 2, 3):
            layer = ("chunks", n)
            # A stream of five bytes may have begun a second chunk of three: six bytes.
            rows = [row for length in range(7) for row in itertools.product(numbers, repeat=length)]
            whole = {tuple(write_all(layer, list(row))): list(row) for row in rows}
            begun = {stream[:length] for stream in whole for length in range(len(stream) + 1)}
            for stream in [some for length in range(6) for some in itertools.product(numbers, repeat=length)]:
                told, fault, last_fault = read_all(layer, list(stream))
                bad = [place for place in range(len(stream)) if stream[:place + 1] not in begun]
                if bad:
                    self.assertEqual((fault, last_fault), (("wrong", 0, bad[0]),) * 2)
                elif stream not in whole:
                    self.assertEqual((fault, last_fault), (None, ("cut", 0)))
                else:
                    self.assertEqual((told, fault, last_fault), (whole[stream], None, None))


class TestWritingChecks(unittest.TestCase):
    def test_no_bytes(self):
        for n in (1, 2, 255):
            self.assertEqual(write_all(("checks", n), []), [0, 0])

    def test_checks_reckoned_by_hand(self):
        # 0 makes 0 * 257 + 0 + 1 = 1; 255 then 257 + 255 + 1 = 513; 7 then 513 * 257 + 7 + 1 = 131849, less 2 * 65521.
        self.assertEqual(write_all(("checks", 9), [0]), [0, 0, 1])
        self.assertEqual(write_all(("checks", 9), [255]), [255, 1, 0])
        self.assertEqual(write_all(("checks", 9), [0, 255]), [0, 255, 2, 1])
        self.assertEqual(write_all(("checks", 9), [0, 255, 7]), [0, 255, 7, 807 // 256, 807 % 256])

    def test_less_65521_as_often_as_that_goes(self):
        # 253 makes 254; then 254 * 257 = 65278, and the next byte, and 1.
        self.assertEqual(write_all(("checks", 9), [253, 241]), [253, 241, 255, 240])
        self.assertEqual(write_all(("checks", 9), [253, 242]), [253, 242, 0, 0])
        self.assertEqual(write_all(("checks", 9), [253, 243]), [253, 243, 0, 1])

    def test_a_multiple_of_n(self):
        self.assertEqual(write_all(("checks", 2), [0, 255]), [0, 255, 2, 1, 2, 1])
        row = [5, 6, 7, 8]
        one, two = check_of(row[:2]), check_of(row)
        self.assertEqual(write_all(("checks", 2), row), [5, 6] + one + [7, 8] + two + two)

    def test_what_is_left(self):
        row = [5, 6, 7]
        self.assertEqual(write_all(("checks", 2), row), [5, 6] + check_of([5, 6]) + [7] + check_of(row))

    def test_checks_of_1(self):
        self.assertEqual(write_all(("checks", 1), [0]), [0, 0, 1, 0, 1])
        self.assertEqual(write_all(("checks", 1), [0, 255]), [0, 0, 1, 255, 2, 1, 2, 1])

    def test_checks_of_255(self):
        row = [byte * 3 % 256 for byte in range(255)]
        check = check_of(row)
        self.assertEqual(write_all(("checks", 255), row[:254]), row[:254] + check_of(row[:254]))
        self.assertEqual(write_all(("checks", 255), row), row + check + check)
        self.assertEqual(write_all(("checks", 255), row + [1]), row + check + [1] + check_of(row + [1]))

    def test_bytes_are_told_at_once_and_checks_with_the_last_byte(self):
        row = [5, 6, 7]
        one, two = check_of([5, 6]), check_of(row)
        self.assertEqual(write_steps(("checks", 2), row), [[5], [6] + one, [7], two])
        self.assertEqual(write_steps(("checks", 3), row), [[5], [6], [7] + two, two])
        self.assertEqual(write_steps(("checks", 1), [0]), [[0, 0, 1], [0, 1]])

    def test_like_the_words_of_the_document(self):
        for n in (1, 2, 5, 100, 254, 255):
            for row in ROWS:
                told = [byte for _, byte in write_by_words(("checks", n), row)]
                self.assertEqual(write_all(("checks", n), row), told)


class TestReadingChecks(unittest.TestCase):
    def test_no_bytes(self):
        for n in (1, 2, 255):
            self.assertEqual(read_all(("checks", n), [0, 0]), ([], None, None))

    def test_n_bytes_are_told_when_their_check_is_there(self):
        stream = write_all(("checks", 2), [5, 6, 7])
        rows = [[], [], [], [5, 6], [], [], [], [7]]
        self.assertEqual(read_steps(("checks", 2), stream), [(row, None) for row in rows])

    def test_nothing_at_the_end_of_a_multiple_of_n(self):
        stream = write_all(("checks", 2), [5, 6])
        rows = [[], [], [], [5, 6], [], [], []]
        self.assertEqual(read_steps(("checks", 2), stream), [(row, None) for row in rows])
        self.assertEqual(read_all(("checks", 1), [0, 0, 1, 0, 1]), ([0], None, None))

    def test_all_that_is_left_is_told_at_the_end(self):
        row = list(range(254))
        reader = reader_of(("checks", 255))
        self.assertEqual(reader.take(write_all(("checks", 255), row)), ([], None))
        self.assertEqual(reader.end(), (row, None))

    def test_wrong_in_the_midst(self):
        one, two = check_of([5, 6]), check_of([5, 6, 7, 8])
        for off in [(1, 0), (0, 1), (255, 255)]:
            with self.subTest(off=off):
                bad = [(two[0] + off[0]) % 256, (two[1] + off[1]) % 256]
                wrong = ("wrong", 4, 7)
                stream = [5, 6] + one + [7, 8] + bad + [1, 2, 3]
                self.assertEqual(read_all(("checks", 2), stream, 4), ([5, 6], wrong, wrong))

    def test_wrong_at_the_second_byte_of_the_check(self):
        """Though its first byte is wrong already."""
        stream = [0, 255, 3, 1]
        rows = [([], None), ([], None), ([], None), ([], ("wrong", 0, 3)), ([], ("wrong", 0, 3))]
        self.assertEqual(read_steps(("checks", 2), stream), rows)

    def test_wrong_where_the_check_is_not_of_all_bytes_so_far(self):
        wrong = ("wrong", 0, 7)
        stream = [5, 6] + check_of([5, 6]) + [7, 8] + check_of([7, 8])
        self.assertEqual(read_all(("checks", 2), stream), ([5, 6], wrong, wrong))

    def test_wrong_where_a_check_is_65521_too_high(self):
        self.assertEqual(read_all(("checks", 9), [253, 242, 255, 241]), ([], None, ("wrong", 0, 3)))

    def test_wrong_at_the_end(self):
        self.assertEqual(read_all(("checks", 2), [0, 1], 6), ([], None, ("wrong", 6, 1)))
        self.assertEqual(read_all(("checks", 2), [1, 0], 6), ([], None, ("wrong", 6, 1)))
        self.assertEqual(read_all(("checks", 2), [0, 0, 0], 6), ([], None, ("wrong", 6, 2)))
        stream = [0, 255, 2, 1, 2, 2]
        self.assertEqual(read_all(("checks", 2), stream, 6), ([0, 255], None, ("wrong", 6, 5)))

    def test_behind_n_bytes_and_one_more_the_last_two_are_the_check(self):
        self.assertEqual(read_all(("checks", 2), [0, 0, 1]), ([0], None, None))
        self.assertEqual(read_all(("checks", 2), [0, 255, 2], 6), ([], None, ("wrong", 6, 2)))
        self.assertEqual(read_all(("checks", 1), [0, 0]), ([], None, None))

    def test_cut_with_fewer_than_two_bytes_for_the_last_check(self):
        for n in (1, 2, 255):
            self.assertEqual(read_all(("checks", n), [], 6), ([], None, ("cut", 6)))
            self.assertEqual(read_all(("checks", n), [0], 6), ([], None, ("cut", 6)))
        self.assertEqual(read_all(("checks", 2), [0, 255, 2, 1], 6), ([0, 255], None, ("cut", 6)))
        self.assertEqual(read_all(("checks", 2), [0, 255, 2, 1, 2], 6), ([0, 255], None, ("cut", 6)))

    def test_first_fault_stays(self):
        reader = reader_of(("checks", 1), 2)
        self.assertEqual(reader.take([0, 0]), ([], None))
        self.assertEqual(reader.take([2, 0, 1]), ([], ("wrong", 2, 2)))
        self.assertEqual(reader.take([0, 0, 1]), ([], ("wrong", 2, 2)))
        self.assertEqual(reader.end(), ([], ("wrong", 2, 2)))


if __name__ == "__main__":
    unittest.main()
