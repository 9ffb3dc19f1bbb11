"""[0.2]: what is written is read again, each stream has one form, and one changed byte under checks is told."""

import itertools
import random
import unittest

from flowstack.stacks import Reader, read, written

KINDS = [("add", 3, 250), ("front",), ("escape", 2), ("runs",), ("chunks", 2), ("checks", 2), ("signs",)]

ROWS = [[], [0], [2, 3], [9, 9, 9], [0, 1, 2, 3, 4, 255], [7] * 300]


class TestReadAgain(unittest.TestCase):
    def test_all_threes_of_layers(self):
        for layers in itertools.product(KINDS, repeat=3):
            for row in ROWS[:5]:
                self.assertEqual(read(list(layers), written(list(layers), row)), (row, None))

    def test_up_to_eight_layers(self):
        for layer in KINDS:
            for count in range(9):
                for row in ROWS:
                    layers = [layer] * count
                    self.assertEqual(read(layers, written(layers, row)), (row, None))

    def test_any_eight_layers(self):
        chance = random.Random(6)
        for turn in range(100):
            layers = [chance.choice(KINDS) for _ in range(8)]
            row = [chance.randrange(256) for _ in range(chance.randrange(40))]
            with self.subTest(turn=turn, layers=layers, row=row):
                self.assertEqual(read(layers, written(layers, row)), (row, None))


class TestBeginnings(unittest.TestCase):
    def test_what_is_told_while_a_written_stream_comes(self):
        chance = random.Random(7)
        for turn in range(200):
            layers = [chance.choice(KINDS) for _ in range(chance.randrange(6))]
            row = [chance.randrange(6) for _ in range(chance.randrange(30))]
            reader, told = Reader(layers), []
            with self.subTest(turn=turn, layers=layers, row=row):
                for byte in written(layers, row):
                    some, fault = reader.take([byte])
                    told += some
                    self.assertIsNone(fault)
                    self.assertEqual(told, row[:len(told)])
                some, fault = reader.end()
                self.assertEqual((told + some, fault), (row, None))

    def test_a_written_stream_that_is_cut_anywhere_has_no_wrong_byte_while_it_comes(self):
        for layers in itertools.product(KINDS, repeat=2):
            stream = written(list(layers), [0, 0, 2, 3, 255])
            for length in range(len(stream)):
                reader = Reader(list(layers))
                told, fault = reader.take(stream[:length])
                self.assertIsNone(fault)
                self.assertEqual(told, [0, 0, 2, 3, 255][:len(told)])


class TestOneForm(unittest.TestCase):
    def test_every_short_stream_that_is_read_is_the_one_that_is_written(self):
        numbers = (0, 1, 2, 3, 45, 122)
        read_well = 0
        for layers in [[layer] for layer in KINDS] + [list(pair) for pair in itertools.product(KINDS, repeat=2)]:
            for length in range(5):
                for stream in itertools.product(numbers, repeat=length):
                    told, fault = read(layers, list(stream))
                    if fault is None:
                        read_well += 1
                        self.assertEqual(written(layers, told), list(stream))
        self.assertGreater(read_well, 1000)

    def test_no_stream_but_the_written_one_is_read_as_its_bytes(self):
        """Each stream of at most two bytes, and what it is read as, for each kind of layer."""
        for layer in KINDS:
            streams = [[]] + [[one] for one in range(256)]
            streams += [[one, two] for one in range(256) for two in range(0, 256, 5)]
            for stream in streams:
                told, fault = read([layer], stream)
                if fault is None:
                    self.assertEqual(written([layer], told), stream)


class TestChangedBytes(unittest.TestCase):
    """Where the last layer is one of checks, one changed byte of the stream is always told."""

    def assert_each_change_is_told(self, layers, row, changes):
        stream = written(layers, row)
        for at, byte in enumerate(stream):
            for change in changes:
                changed = stream[:at] + [(byte + change) % 256] + stream[at + 1:]
                told, fault = read(layers, changed)
                self.assertEqual(fault[:2], ("wrong", len(layers) - 1))
                self.assertGreaterEqual(fault[2], at)
                self.assertEqual(told, row[:len(told)])

    def test_every_single_change(self):
        for n in (1, 2, 3, 255):
            for row in [[], [0], [255, 254], [1, 2, 3, 4, 5]]:
                self.assert_each_change_is_told([("checks", n)], row, range(1, 256))

    def test_every_single_place_of_longer_streams(self):
        row = [number * number % 256 for number in range(260)]
        for n in (1, 100, 255):
            self.assert_each_change_is_told([("checks", n)], row, (1, 128, 255))

    def test_with_layers_ahead(self):
        for layer in KINDS:
            for n in (1, 2, 7):
                self.assert_each_change_is_told([layer, ("checks", n)], [5, 5, 2, 0], (1, 16, 77, 255))
        layers = [("front",), ("runs",), ("add", 9), ("escape", 0), ("chunks", 2), ("signs",), ("checks", 2)]
        self.assert_each_change_is_told(layers + [("checks", 4)], [5, 5, 2], (1, 255))


if __name__ == "__main__":
    unittest.main()
