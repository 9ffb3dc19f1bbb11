"""[1.1] and [0.3]: what is a layer, and what is none; how many may stand one upon the other."""

import unittest

from flowstack.errors import BadLayer, FlowError
from flowstack.framed import framed_reader, framed_writer
from flowstack.marked import marked_reader, marked_writer
from flowstack.signs import signs_reader, signs_writer
from flowstack.simple import simple_reader, simple_writer
from flowstack.stacks import Reader, Writer, read, written

FAMILIES = [
    (simple_writer, simple_reader, [("add", 0), ("add", 255), ("add", 1, 2, 3, 4, 5, 6, 7, 8), ("front",)]),
    (marked_writer, marked_reader, [("escape", 0), ("escape", 128), ("escape", 255), ("runs",)]),
    (framed_writer, framed_reader, [("chunks", 1), ("chunks", 255), ("checks", 1), ("checks", 255)]),
    (signs_writer, signs_reader, [("signs",)]),
]

GOOD = [layer for _, _, layers in FAMILIES for layer in layers]

HUGE = 10 ** 5000

BAD = [
    (),
    ("",),
    ("Add", 1),
    ("adds", 1),
    ("mirror",),
    ("chunk", 1),
    ("check", 1),
    ("sign",),
    ("signs ",),
    ("SIGNS",),
    (1,),
    (1, "add"),
    (("front",),),
    (None,),
    ("add",),
    ("add", 1, 2, 3, 4, 5, 6, 7, 8, 9),
    ("add", -1),
    ("add", 256),
    ("add", 1, 2, 256),
    ("add", -1, 2),
    ("add", "1"),
    ("add", None),
    ("add", True),
    ("add", 1, False),
    ("add", (1,)),
    ("add", HUGE),
    ("front", 0),
    ("front", 1, 2),
    ("front", ""),
    ("escape",),
    ("escape", 1, 2),
    ("escape", -1),
    ("escape", 256),
    ("escape", "a"),
    ("escape", True),
    ("escape", None),
    ("escape", HUGE),
    ("runs", 0),
    ("runs", 255),
    ("chunks",),
    ("chunks", 1, 2),
    ("chunks", 0),
    ("chunks", 256),
    ("chunks", -1),
    ("chunks", "1"),
    ("chunks", True),
    ("chunks", None),
    ("chunks", HUGE),
    ("checks",),
    ("checks", 1, 2),
    ("checks", 0),
    ("checks", 256),
    ("checks", -1),
    ("checks", "1"),
    ("checks", True),
    ("checks", None),
    ("checks", HUGE),
    ("signs", 0),
    ("signs", 64),
    ("signs", ""),
    ["front"],
    ["add", 1],
    ["escape", 1],
    ["runs"],
    ["signs"],
    "front",
    "runs",
    "signs",
    None,
    0,
]


def shown(layer):
    """Python does not show a number of so many digits."""
    return layer[0] if isinstance(layer, tuple) and HUGE in layer else repr(layer)


class TestOneLayer(unittest.TestCase):
    def test_each_good_layer_is_made(self):
        for writer, reader, layers in FAMILIES:
            for layer in layers:
                with self.subTest(layer=layer):
                    stream = writer(layer).end()
                    made = reader(layer, 0)
                    self.assertEqual(made.take(stream), ([], None))
                    self.assertEqual(made.end(), ([], None))

    def assert_refused(self, layer, writer, reader):
        with self.subTest(layer=shown(layer)):
            self.assertRaises(BadLayer, writer, layer)
            self.assertRaises(BadLayer, reader, layer, 0)

    def test_all_others_are_refused(self):
        for layer in BAD:
            for writer, reader, _ in FAMILIES:
                self.assert_refused(layer, writer, reader)

    def test_each_file_refuses_the_layers_of_the_others(self):
        for writer, reader, own in FAMILIES:
            for layer in GOOD:
                if layer not in own:
                    self.assert_refused(layer, writer, reader)


class TestStacks(unittest.TestCase):
    def assert_refused(self, layers):
        for refusing in [
            lambda: Writer(layers), lambda: Reader(layers), lambda: written(layers, [1]), lambda: read(layers, [1]),
            lambda: written(layers, []), lambda: read(layers, []),
        ]:
            with self.assertRaises(BadLayer) as caught:
                refusing()
            self.assertIsInstance(caught.exception, FlowError)

    def assert_made(self, layers):
        stream = written(layers, [1, 1, 2])
        self.assertEqual(read(layers, stream), ([1, 1, 2], None))
        writer = Writer(layers)
        self.assertEqual(writer.take([1, 1, 2]) + writer.end(), stream)
        reader = Reader(layers)
        told, fault = reader.take(stream)
        last, last_fault = reader.end()
        self.assertEqual((told + last, fault, last_fault), ([1, 1, 2], None, None))

    def test_each_good_layer(self):
        for layer in GOOD:
            with self.subTest(layer=layer):
                self.assert_made([layer])

    def test_every_number_between_the_ends(self):
        for number in range(256):
            self.assert_made([("escape", number)])
            self.assert_made([("add", number)])
            if number > 0:
                self.assert_made([("chunks", number)])
                self.assert_made([("checks", number)])

    def test_every_length_of_a_key(self):
        for length in range(1, 9):
            self.assert_made([("add",) + (255,) * length])

    def test_each_bad_layer(self):
        for layer in BAD:
            with self.subTest(layer=shown(layer)):
                self.assert_refused([layer])

    def test_a_bad_layer_at_any_place(self):
        for place in range(8):
            layers = [("runs",)] * 7
            layers.insert(place, ("chunks", 256))
            self.assert_refused(layers)

    def test_no_layers(self):
        self.assert_made([])

    def test_as_many_as_eight_layers(self):
        for count in range(1, 9):
            for layer in GOOD:
                self.assert_made([layer] * count)

    def test_nine_layers_and_more(self):
        for layer in GOOD:
            self.assert_refused([layer] * 9)
        self.assert_refused([("front",)] * 10)
        self.assert_refused([("front",)] * 300)

    def test_the_list_of_layers_is_unchanged(self):
        for layers in [[], [("add", 1, 2), ("checks", 2), ("signs",)], [("runs",)] * 8]:
            handed = list(layers)
            self.assert_made(handed)
            self.assertEqual(handed, layers)
        for layers in [[("runs",)] * 9, [("runs",), ("runs", 1), ("signs",)]]:
            handed = list(layers)
            self.assert_refused(handed)
            self.assertEqual(handed, layers)

    def test_the_list_of_layers_is_not_kept(self):
        layers = [("runs",), ("checks", 2)]
        stream = written(layers, [5, 5, 6])
        handed = list(layers)
        writer, reader = Writer(handed), Reader(handed)
        handed[:] = [("signs",)] * 12
        told = writer.take([5, 5])
        handed.clear()
        self.assertEqual(told + writer.take([6]) + writer.end(), stream)
        told, _ = reader.take(stream)
        handed.append(None)
        self.assertEqual((told + reader.end()[0]), [5, 5, 6])


if __name__ == "__main__":
    unittest.main()
