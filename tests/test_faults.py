"""[2.4] all faults, of each layer, through Reader and read; [2.5] which fault is the first, and what is told then."""

import itertools
import random
import sys
import unittest

from flowstack.stacks import Reader, read, written
from helpers import SIGNS, check_of, read_steps, read_steps_by_words

LAYERS = [("add", 1, 200), ("front",), ("escape", 1), ("runs",), ("chunks", 2), ("checks", 1), ("signs",)]


class FaultCase(unittest.TestCase):
    def assert_fault(self, layers, stream, told, fault, at=None):
        """The fault comes with the byte at this place, or at the end, and stays."""
        self.assertEqual(read(layers, stream), (told, fault))
        steps = read_steps(layers, stream)
        self.assertEqual(sum([some for some, _ in steps], []), told)
        first = len(stream) if at is None else at
        self.assertEqual([None] * first + [fault] * (len(steps) - first), [seen for _, seen in steps])
        self.assertEqual([some for some, _ in steps[first + 1:]], [[]] * len(steps[first + 1:]))
        self.assertEqual(steps, read_steps_by_words(layers, stream))
        self.assert_stays(layers, stream, fault, at)

    def assert_stays(self, layers, stream, fault, at):
        if at is None:
            return
        reader = Reader(layers)
        self.assertEqual(reader.take(stream)[1], fault)
        for piece in [[], [0, 1, 2], stream, [45] * 20]:
            self.assertEqual(reader.take(piece), ([], fault))
        self.assertEqual(reader.end(), ([], fault))


class TestOneLayer(FaultCase):
    def test_escape(self):
        self.assert_fault([("escape", 5)], [9, 5, 9], [9], ("wrong", 0, 1), 1)
        self.assert_fault([("escape", 5)], [9, 6, 9], [9], ("wrong", 0, 2), 2)
        self.assert_fault([("escape", 5)], [6, 5], [], ("wrong", 0, 1), 1)
        self.assert_fault([("escape", 5)], [6, 6], [], ("wrong", 0, 1), 1)
        self.assert_fault([("escape", 5)], [6, 7, 6], [5], ("cut", 0))

    def test_runs(self):
        self.assert_fault([("runs",)], [2, 9, 0, 9], [9, 9], ("wrong", 0, 2), 2)
        self.assert_fault([("runs",)], [2, 9, 1, 9, 1, 1], [9, 9], ("wrong", 0, 3), 3)
        self.assert_fault([("runs",)], [255, 9, 1, 9, 1, 9], [9] * 256, ("wrong", 0, 5), 5)
        self.assert_fault([("runs",)], [2, 9, 1], [9, 9], ("cut", 0))

    def test_chunks(self):
        self.assert_fault([("chunks", 2)], [3, 1, 1], [], ("wrong", 0, 0), 0)
        self.assert_fault([("chunks", 2)], [2, 9, 9, 3], [9, 9], ("wrong", 0, 3), 3)
        self.assert_fault([("chunks", 2)], [1, 9, 0], [9], ("wrong", 0, 2), 2)
        self.assert_fault([("chunks", 2)], [2, 9, 9, 0, 2, 9], [9, 9], ("wrong", 0, 4), 4)
        self.assert_fault([("chunks", 2)], [], [], ("cut", 0))
        self.assert_fault([("chunks", 2)], [2], [], ("cut", 0))
        self.assert_fault([("chunks", 2)], [2, 9], [9], ("cut", 0))
        self.assert_fault([("chunks", 2)], [1], [], ("cut", 0))
        self.assert_fault([("chunks", 2)], [2, 9, 9], [9, 9], ("cut", 0))
        self.assert_fault([("chunks", 1)], [1, 9], [9], ("cut", 0))
        self.assert_fault([("chunks", 1)], [2], [], ("wrong", 0, 0), 0)
        self.assert_fault([("chunks", 254)], [255], [], ("wrong", 0, 0), 0)
        self.assert_fault([("chunks", 255)], [255] * 256, [255] * 255, ("cut", 0))

    def test_checks(self):
        self.assert_fault([("checks", 2)], [0, 255, 2, 0, 7], [], ("wrong", 0, 3), 3)
        self.assert_fault([("checks", 2)], [0, 255, 1, 1, 7], [], ("wrong", 0, 3), 3)
        self.assert_fault([("checks", 1)], [0, 0, 1, 7, 0, 1], [0], ("wrong", 0, 5), 5)
        self.assert_fault([("checks", 2)], [0, 255, 2, 1, 0, 1], [0, 255], ("wrong", 0, 5))
        self.assert_fault([("checks", 2)], [0, 0, 2], [], ("wrong", 0, 2))
        self.assert_fault([("checks", 2)], [0, 255], [], ("wrong", 0, 1))
        self.assert_fault([("checks", 2)], [], [], ("cut", 0))
        self.assert_fault([("checks", 2)], [0], [], ("cut", 0))
        self.assert_fault([("checks", 2)], [0, 255, 2, 1], [0, 255], ("cut", 0))
        self.assert_fault([("checks", 2)], [0, 255, 2, 1, 2], [0, 255], ("cut", 0))
        self.assert_fault([("checks", 255)], [1] * 257, [], ("wrong", 0, 256), 256)
        self.assert_fault([("checks", 255)], [1] * 256, [], ("wrong", 0, 255))

    def test_signs(self):
        self.assert_fault([("signs",)], [48, 48, 46, 48], [4], ("wrong", 0, 2), 2)
        self.assert_fault([("signs",)], [64], [], ("wrong", 0, 0), 0)
        self.assert_fault([("signs",)], [45], [], ("cut", 0))
        self.assert_fault([("signs",)], [122] * 5, [255] * 3, ("cut", 0))
        self.assert_fault([("signs",)], [45, 48], [0], ("wrong", 0, 1))
        self.assert_fault([("signs",)], [45, 45, 48], [0, 0], ("wrong", 0, 2))
        self.assert_fault([("signs",)], [45] * 4 + [45, 48], [0] * 4, ("wrong", 0, 5))

    def test_bytes_that_are_no_signs(self):
        for byte in range(256):
            if byte not in SIGNS:
                self.assert_fault([("signs",)], [byte], [], ("wrong", 0, 0), 0)

    def test_add_and_front_have_none(self):
        for layer in [("add", 1, 200), ("front",)]:
            for stream in [[], [0], [255, 255, 0, 7], list(range(256))]:
                told, fault = read([layer], stream)
                self.assertIsNone(fault)
                self.assertEqual(written([layer], told), stream)


class TestNumbers(FaultCase):
    """The layer that a fault names, and the place among that layer's own bytes."""

    def test_each_layer_of_eight(self):
        for number in range(8):
            layers = [("add", 0)] * 8
            layers[number] = ("runs",)
            self.assert_fault(layers, [2, 9, 0], [9, 9], ("wrong", number, 2), 2)
            self.assert_fault(layers, [2, 9, 1], [9, 9], ("cut", number))

    def test_places_are_counted_by_the_layer_s_own_bytes(self):
        layers = [("runs",), ("signs",)]
        stream = written([("signs",)], [2, 9, 0, 4])
        self.assert_fault(layers, stream, [9, 9], ("wrong", 0, 2), 3)
        layers = [("escape", 3), ("runs",)]
        self.assert_fault(layers, [200, 9, 7, 3], [9] * 200, ("wrong", 0, 200), 3)

    def test_place_of_the_last_byte_at_the_end(self):
        layers = [("checks", 9), ("runs",)]
        self.assert_fault(layers, [3, 0], [], ("wrong", 0, 2))
        self.assert_fault([("signs",), ("chunks", 9)], [6, 45, 45, 45, 45, 45, 48], [0] * 4, ("wrong", 0, 5))


class TestOrder(FaultCase):
    def test_one_byte_that_brings_several_to_the_layer_ahead(self):
        # 5 5 5 5: a run of five, and another one of the same byte.
        self.assert_fault([("runs",), ("runs",)], [4, 5], [5] * 5, ("wrong", 0, 3), 1)
        # 2 2 2 2 2: a last chunk of two, and a byte behind it.
        self.assert_fault([("chunks", 3), ("runs",)], [5, 2], [2, 2], ("wrong", 0, 3), 1)
        # 1 0 0 1: a chunk of one, a last one of nought, and a byte behind it.
        self.assert_fault([("chunks", 1), ("runs",)], [1, 1, 2, 0, 1, 1], [0], ("wrong", 0, 3), 5)
        # 3 nine times: two full chunks, and the length of a third one.
        self.assert_fault([("chunks", 3), ("runs",)], [9, 3], [3] * 6, ("cut", 0))

    def test_what_came_ahead_in_the_same_byte_is_told(self):
        bytes_ahead = [7, 8, 5, 9]
        stream = bytes_ahead + check_of(bytes_ahead)
        self.assert_fault([("escape", 5), ("checks", 4)], stream, [7, 8], ("wrong", 0, 2), 5)

    def test_a_byte_goes_through_all_layers_before_the_next_one_does(self):
        """Layer 1 would have a fault at its fourth byte, but what its second one brings is one for layer 0 first."""
        layers = [("escape", 9), ("runs",), ("checks", 4)]
        bytes_ahead = [2, 9, 0, 9]
        stream = bytes_ahead + check_of(bytes_ahead)
        self.assert_fault(layers, stream, [], ("wrong", 0, 0), 5)
        bytes_ahead = [2, 8, 0, 9]
        stream = bytes_ahead + check_of(bytes_ahead)
        self.assert_fault(layers, stream, [8, 8], ("wrong", 1, 2), 5)
        bytes_ahead = [2, 8, 3, 9]
        stream = bytes_ahead + check_of(bytes_ahead)
        self.assert_fault(layers, stream, [8, 8], ("wrong", 0, 2), 5)

    def test_the_first_of_several_layers_with_faults(self):
        layers = [("escape", 5), ("runs",)]
        self.assert_fault(layers, [1, 5, 0], [], ("wrong", 0, 0), 1)
        self.assert_fault(layers, [0, 1, 5], [], ("wrong", 1, 0), 0)
        self.assert_fault(layers, [1, 4, 1, 4, 1, 5], [4], ("wrong", 1, 3), 3)

    def test_faults_while_the_stream_comes_are_ahead_of_those_at_its_end(self):
        layers = [("escape", 5), ("runs",)]
        self.assert_fault(layers, [1, 5, 1], [], ("wrong", 0, 0), 1)
        layers = [("runs",), ("chunks", 2)]
        self.assert_fault(layers, [2, 1, 7, 1, 0], [7], ("wrong", 0, 2), 4)

    def test_at_the_end_the_last_layer_is_the_first(self):
        layers = [("escape", 5), ("runs",)]
        self.assert_fault(layers, [1, 6], [], ("cut", 0))
        self.assert_fault(layers, [1, 6, 1], [], ("cut", 1))
        layers = [("chunks", 2), ("chunks", 2), ("chunks", 2)]
        self.assert_fault(layers, [], [], ("cut", 2))
        self.assert_fault(layers, [0], [], ("cut", 1))
        self.assert_fault(layers, [1, 0], [], ("cut", 0))

    def test_what_checks_tell_at_the_end_goes_through_the_layers_ahead(self):
        """A fault of a layer ahead in what is told at the end, ahead of that layer's own end."""
        bytes_ahead = [7, 5, 6]
        stream = bytes_ahead + check_of(bytes_ahead)
        self.assert_fault([("escape", 5), ("checks", 9)], stream, [7], ("wrong", 0, 1))
        bytes_ahead = [7, 6]
        stream = bytes_ahead + check_of(bytes_ahead)
        self.assert_fault([("escape", 5), ("checks", 9)], stream, [7], ("cut", 0))
        layers = [("escape", 7), ("runs",), ("checks", 9)]
        bytes_ahead = [1, 8, 1]
        stream = bytes_ahead + check_of(bytes_ahead)
        self.assert_fault(layers, stream, [], ("cut", 1))
        bytes_ahead = [2, 7, 1]
        stream = bytes_ahead + check_of(bytes_ahead)
        self.assert_fault(layers, stream, [], ("wrong", 0, 0))

    def test_a_wrong_check_at_the_end_tells_nothing_to_the_layers_ahead(self):
        self.assert_fault([("escape", 5), ("checks", 9)], [5, 5, 0, 0], [], ("wrong", 1, 3))
        self.assert_fault([("chunks", 5), ("checks", 9)], [0, 0], [], ("cut", 0))

    def test_bytes_behind_the_first_fault_are_never_reached(self):
        """Of two bytes would come 32385 for layer 0, but the first of these ends the reading.

        Going layer by layer would answer the same, so what is done is counted.
        """
        layers = [("escape", 255), ("runs",), ("runs",)]
        calls = []
        sys.setprofile(lambda frame, event, value: calls.append(event))
        try:
            answer = read(layers, [255, 255])
        finally:
            sys.setprofile(None)
        self.assertEqual(answer, ([], ("wrong", 0, 0)))
        self.assertLess(len(calls), 1000)


class TestLikeTheWords(unittest.TestCase):
    """Streams with faults, byte by byte, beside the layers as the helpers have them a second time."""

    def assert_like_words(self, layers, stream):
        steps = read_steps_by_words(layers, stream)
        self.assertEqual(read_steps(layers, stream), steps)
        told = sum([some for some, _ in steps], [])
        self.assertEqual(read(layers, stream), (told, steps[-1][1]))
        if steps[-1][1] is None:
            self.assertEqual(written(layers, told), stream)

    def test_all_short_streams_of_one_layer(self):
        numbers = (0, 1, 2, 3, 45, 48)
        for layer in LAYERS:
            for length in range(6):
                for stream in itertools.product(numbers, repeat=length):
                    self.assert_like_words([layer], list(stream))

    def test_all_shorter_streams_of_two_layers(self):
        numbers = (0, 1, 2, 45, 48)
        for layers in itertools.product(LAYERS, repeat=2):
            for length in range(5):
                for stream in itertools.product(numbers, repeat=length):
                    self.assert_like_words(list(layers), list(stream))

    def test_spoiled_streams(self):
        """One byte of a written stream is another, is missing, is there twice, or the stream is cut."""
        chance = random.Random(4)
        rows = [[], [1], [0, 0, 1, 2, 255], [5] * 7, [1, 2, 3, 4, 5, 6]]
        for turn in range(3000):
            layers = [chance.choice(LAYERS) for _ in range(chance.randrange(1, 5))]
            stream = written(layers, chance.choice(rows))
            at = chance.randrange(len(stream) + 1)
            ways = [stream[:at], stream[:at] + stream[at + 1:], stream[:at] + stream[max(at - 1, 0):]]
            other = chance.choice([0, 1, 2, 3, 45, 48, chance.randrange(256)])
            spoiled = chance.choice(ways + [stream[:at] + [other] + stream[at + 1:]] * 3)
            with self.subTest(turn=turn, layers=layers, stream=spoiled):
                self.assert_like_words(layers, spoiled)

    def test_faults_ahead_of_checks_that_are_right(self):
        """Spoiled streams of layers that stand under others, so that these bring several bytes at once."""
        chance = random.Random(5)
        for turn in range(2000):
            under = [chance.choice(LAYERS) for _ in range(chance.randrange(1, 3))]
            over = chance.choice([[("checks", 3)], [("checks", 90)], [("runs",)], [("signs",), ("checks", 4)]])
            stream = written(under, chance.choice([[], [1, 1, 1, 2], [0, 255, 5, 5, 5, 5, 6]]))
            for _ in range(chance.randrange(1, 3)):
                at = chance.randrange(len(stream) + 1)
                stream = stream[:at] + [chance.choice([0, 1, 2, 45, 255])] + stream[at + chance.randrange(2):]
            with self.subTest(turn=turn, layers=under + over, stream=stream):
                self.assert_like_words(under + over, written(over, stream))


if __name__ == "__main__":
    unittest.main()
