"""flowstack.stacks: [2.1] layers one upon the other, [2.2] and [2.3] what is told with each byte."""

import itertools
import random
import unittest

from flowstack.stacks import Reader, Writer, read, written
from helpers import (
    EIGHT_LAYERS, LAYERS, ROWS, STACKS, check_of, pieces_of, read_steps, read_steps_by_words, write_steps,
    write_steps_by_words
)

SHORT_LAYERS = [
    ("add", 1, 200), ("front",), ("escape", 1), ("runs",), ("chunks", 2), ("checks", 2), ("signs",),
]

SHORT_ROWS = [[], [1], [1, 1], [1, 1, 2], [0, 255, 255, 1, 2], [5, 5, 5, 5, 5, 6, 7]]


def random_layers(chance, most):
    """So many layers of any kind, with small numbers as often as others."""
    small = [1, 2, 3, 255, chance.randrange(1, 256)]
    return [
        chance.choice([
            ("add",) + tuple(chance.randrange(256) for _ in range(chance.randrange(1, 9))),
            ("front",), ("escape", chance.randrange(256)), ("runs",), ("signs",),
            ("chunks", chance.choice(small)), ("checks", chance.choice(small)),
        ])
        for _ in range(chance.randrange(most + 1))
    ]


def random_row(chance, most):
    bytes_left = [chance.randrange(256) for _ in range(chance.randrange(1, 6))]
    return [chance.choice(bytes_left) for _ in range(chance.randrange(most + 1))]


def random_pieces(chance, row):
    pieces, at = [], 0
    while at < len(row):
        length = chance.choice([0, 1, 1, 2, 5, 30])
        pieces.append(row[at:at + length])
        at += length
    return pieces + [[]] * chance.randrange(2)


class TestNoLayers(unittest.TestCase):
    def test_bytes_as_they_are(self):
        for row in ROWS:
            self.assertEqual(written([], row), row)
            self.assertEqual(read([], row), (row, None))

    def test_told_at_once(self):
        self.assertEqual(write_steps([], [7, 0]), [[7], [0], []])
        self.assertEqual(read_steps([], [7, 0]), [([7], None), ([0], None), ([], None)])


class TestOneLayer(unittest.TestCase):
    """What is told with each byte, and at the end, by the words of [2.2] and [2.3]."""

    def assert_told(self, layer, row, writing, reading):
        self.assertEqual(write_steps([layer], row), writing)
        stream = sum(writing, [])
        self.assertEqual(written([layer], row), stream)
        self.assertEqual(read_steps([layer], stream), [(told, None) for told in reading])
        self.assertEqual(read([layer], stream), (row, None))

    def test_add(self):
        self.assert_told(("add", 1, 2), [5, 255, 255], [[6], [1], [0], []], [[5], [255], [255], []])

    def test_front(self):
        self.assert_told(("front",), [5, 5, 0], [[5], [0], [1], []], [[5], [5], [0], []])

    def test_escape(self):
        self.assert_told(("escape", 5), [5, 6, 7], [[6, 7], [6, 8], [7], []], [[], [5], [], [6], [7], []])

    def test_runs(self):
        self.assert_told(("runs",), [5, 5, 6], [[], [], [2, 5], [1, 6]], [[], [5, 5], [], [6], []])
        self.assert_told(("runs",), [5] * 255, [[]] * 254 + [[255, 5], []], [[], [5] * 255, []])

    def test_chunks(self):
        self.assert_told(("chunks", 2), [5, 6, 7], [[], [2, 5, 6], [], [1, 7]], [[], [5], [6], [], [7], []])
        self.assert_told(("chunks", 2), [5, 6], [[], [2, 5, 6], [0]], [[], [5], [6], [], []])

    def test_checks(self):
        one, two = check_of([5, 6]), check_of([5, 6, 7])
        writing = [[5], [6] + one, [7], two]
        self.assert_told(("checks", 2), [5, 6, 7], writing, [[], [], [], [5, 6], [], [], [], [7]])
        self.assert_told(("checks", 2), [5, 6], [[5], [6] + one, one], [[], [], [], [5, 6], [], [], []])

    def test_signs(self):
        writing = [[122], [122], [122, 122], [45], [70]]
        self.assert_told(("signs",), [255] * 3 + [1], writing, [[], [255], [255], [255], [], [1], []])


class TestLayersUponLayers(unittest.TestCase):
    def test_the_first_layer_is_written_through_first(self):
        self.assertEqual(written([("runs",), ("add", 1)], [5, 5]), [3, 6])
        self.assertEqual(written([("add", 1), ("runs",)], [5, 5]), [2, 6])
        self.assertEqual(written([("add", 1, 2), ("runs",)], [5, 5]), [1, 6, 1, 7])
        self.assertEqual(read([("runs",), ("add", 1)], [3, 6]), ([5, 5], None))
        self.assertEqual(read([("add", 1), ("runs",)], [2, 6]), ([5, 5], None))

    def test_the_end_goes_from_the_first_layer_on(self):
        """What a layer writes at its end goes through those behind it, ahead of what these write at theirs."""
        self.assertEqual(write_steps([("runs",), ("chunks", 3)], [5, 5]), [[], [], [2, 2, 5]])
        self.assertEqual(write_steps([("runs",), ("chunks", 2)], [5, 5]), [[], [], [2, 2, 5, 0]])
        self.assertEqual(write_steps([("chunks", 3), ("runs",)], [5, 5]), [[], [], [1, 2, 2, 5]])
        self.assertEqual(write_steps([("chunks", 2), ("runs",)], [0, 0]), [[], [1, 2], [3, 0]])
        self.assertEqual(write_steps([("chunks", 1), ("chunks", 1)], []), [[1, 0, 0]])
        self.assertEqual(write_steps([("checks", 2), ("checks", 2)], []), [[0, 0, 1, 2, 1, 2]])

    def test_the_end_of_three_layers(self):
        self.assertEqual(write_steps([("runs",), ("chunks", 2), ("runs",)], [5]), [[], [1, 2, 1, 1, 1, 5, 1, 0]])
        self.assertEqual(write_steps([("chunks", 9), ("signs",), ("runs",)], []), [[2, 45]])

    def test_two_layers_in_writing(self):
        told = write_steps([("runs",), ("chunks", 3)], [5, 5, 6, 7])
        self.assertEqual(told, [[], [], [], [3, 2, 5, 1], [3, 6, 1, 7, 0]])
        told = write_steps([("escape", 5), ("checks", 1)], [5])
        self.assertEqual(told, [[6] + check_of([6]) + [7] + check_of([6, 7]), check_of([6, 7])])

    def test_two_layers_in_reading(self):
        told = read_steps([("runs",), ("chunks", 3)], [3, 2, 5, 1, 3, 6, 1, 7, 0])
        rows = [[], [], [5, 5], [], [], [6], [], [7], [], []]
        self.assertEqual(told, [(row, None) for row in rows])
        stream = written([("runs",), ("checks", 4)], [5, 5, 6, 7])
        rows = [[]] * 5 + [[5, 5, 6]] + [[]] * 4 + [[7]]
        self.assertEqual(read_steps([("runs",), ("checks", 4)], stream), [(row, None) for row in rows])

    def test_three_layers_in_reading(self):
        layers = [("escape", 5), ("runs",), ("chunks", 2)]
        stream = [2, 1, 6, 2, 1, 7, 2, 2, 9, 0]
        self.assertEqual(written(layers, [5, 9, 9]), stream)
        rows = [[], [], [], [], [], [5], [], [], [9, 9], [], []]
        self.assertEqual(read_steps(layers, stream), [(row, None) for row in rows])

    def test_the_end_in_reading(self):
        """What checks still tell at the end goes through the layers ahead, whose own end comes behind that."""
        layers = [("checks", 5), ("checks", 9)]
        stream = written(layers, [7, 8])
        reader = Reader(layers)
        self.assertEqual(reader.take(stream), ([], None))
        self.assertEqual(reader.end(), ([7, 8], None))
        layers = [("runs",), ("chunks", 9), ("signs",), ("checks", 90)]
        stream = written(layers, [7, 7, 7, 8])
        reader = Reader(layers)
        self.assertEqual(reader.take(stream), ([], None))
        self.assertEqual(reader.end(), ([7, 7, 7, 8], None))


class TestLikeTheWords(unittest.TestCase):
    """Byte by byte, beside the layers as the helpers have them a second time."""

    def assert_like_words(self, layers, row):
        steps = write_steps_by_words(layers, row)
        stream = sum(steps, [])
        self.assertEqual(write_steps(layers, row), steps)
        self.assertEqual(written(layers, row), stream)
        self.assertEqual(read_steps(layers, stream), read_steps_by_words(layers, stream))
        self.assertEqual(read(layers, stream), (row, None))

    def test_each_layer(self):
        for layer in LAYERS:
            for row in ROWS:
                with self.subTest(layer=layer, length=len(row)):
                    self.assert_like_words([layer], row)

    def test_all_twos_and_threes(self):
        for count in (2, 3):
            for layers in itertools.product(SHORT_LAYERS, repeat=count):
                for row in SHORT_ROWS:
                    with self.subTest(layers=layers, row=row):
                        self.assert_like_words(list(layers), row)

    def test_up_to_eight_layers(self):
        for layers in STACKS:
            for row in SHORT_ROWS:
                with self.subTest(layers=layers, row=row):
                    self.assert_like_words(layers, row)

    def test_any_layers(self):
        chance = random.Random(1)
        for turn in range(300):
            layers, row = random_layers(chance, 8), random_row(chance, 12)
            with self.subTest(turn=turn, layers=layers, row=row):
                self.assert_like_words(layers, row)


class TestPieces(unittest.TestCase):
    def assert_same_in_pieces(self, layers, row, row_pieces, stream_pieces):
        writer = Writer(layers)
        told = [writer.take(piece) for piece in row_pieces] + [writer.end()]
        self.assertEqual(sum(told, []), written(layers, row))
        reader = Reader(layers)
        pairs = [reader.take(piece) for piece in stream_pieces] + [reader.end()]
        self.assertEqual(sum([pair[0] for pair in pairs], []), row)
        self.assertEqual({pair[1] for pair in pairs}, {None})

    def test_any_pieces(self):
        chance = random.Random(2)
        for turn in range(300):
            layers, row = random_layers(chance, 8), random_row(chance, 60)
            stream = written(layers, row)
            with self.subTest(turn=turn, layers=layers, row=row):
                self.assert_same_in_pieces(layers, row, random_pieces(chance, row), random_pieces(chance, stream))

    def test_long_rows_through_eight_layers(self):
        for row in ROWS:
            stream = written(EIGHT_LAYERS, row)
            for row_pieces, stream_pieces in zip(pieces_of(row), pieces_of(stream)):
                self.assert_same_in_pieces(EIGHT_LAYERS, row, row_pieces, stream_pieces)

    def test_streams_with_faults_tell_the_same_in_pieces(self):
        chance = random.Random(3)
        for turn in range(300):
            layers = random_layers(chance, 3)
            stream = random_row(chance, 12)
            with self.subTest(turn=turn, layers=layers, stream=stream):
                whole = read(layers, stream)
                reader = Reader(layers)
                pairs = [reader.take(piece) for piece in random_pieces(chance, stream)] + [reader.end()]
                self.assertEqual((sum([pair[0] for pair in pairs], []), pairs[-1][1]), whole)

    def test_empty_pieces_tell_nothing(self):
        for layers in STACKS:
            writer, reader = Writer(layers), Reader(layers)
            self.assertEqual([writer.take([]), writer.take([])], [[], []])
            self.assertEqual([reader.take([]), reader.take([])], [([], None)] * 2)


class TestSideBySide(unittest.TestCase):
    def test_two_writers(self):
        for layers in STACKS:
            one, other = Writer(layers), Writer(layers)
            row, contrary = [5, 5, 6, 0, 255, 7], [7, 7, 7, 1, 5, 5]
            told = [(one.take([a]), other.take([b])) for a, b in zip(row, contrary)] + [(one.end(), other.end())]
            self.assertEqual([pair[0] for pair in told], write_steps(layers, row))
            self.assertEqual([pair[1] for pair in told], write_steps(layers, contrary))

    def test_two_readers(self):
        for layers in STACKS:
            stream = written(layers, [5, 5, 6, 0, 255, 7])
            contrary = stream[:-1] + [1]
            one, other = Reader(layers), Reader(layers)
            told = [(one.take([a]), other.take([b])) for a, b in zip(stream, contrary)] + [(one.end(), other.end())]
            self.assertEqual([pair[0] for pair in told], read_steps(layers, stream))
            self.assertEqual([pair[1] for pair in told], read_steps(layers, contrary))

    def test_written_and_read_begin_anew_each_time(self):
        for layers in STACKS:
            stream = written(layers, [5, 5, 6])
            self.assertEqual(written(layers, [5, 5, 6]), stream)
            self.assertEqual([read(layers, stream), read(layers, stream)], [([5, 5, 6], None)] * 2)


class TestListsOfWrittenAndRead(unittest.TestCase):
    def test_lists_are_unchanged_and_new(self):
        for layers in STACKS:
            for row in ROWS:
                handed = list(row)
                stream = written(layers, handed)
                self.assertIsNot(stream, handed)
                self.assertEqual(handed, row)
                handed_stream = list(stream)
                told = read(layers, handed_stream)
                self.assertIsNot(told[0], handed_stream)
                self.assertEqual(handed_stream, stream)
                stream.append(1)
                handed.append(1)
                self.assertEqual(told, (row, None))
                self.assertIs(type(told), tuple)


if __name__ == "__main__":
    unittest.main()
