"""[1.1] and [0.3]: what is a layer, and what is none."""

import unittest

from flowstack.errors import BadLayer
from flowstack.marked import marked_reader, marked_writer
from flowstack.simple import simple_reader, simple_writer

GOOD_SIMPLE = [("add", 0), ("add", 255), ("add", 1, 2, 3, 4, 5, 6, 7, 8), ("front",)]
GOOD_MARKED = [("escape", 0), ("escape", 128), ("escape", 255), ("runs",)]

BAD = [
    (),
    ("",),
    ("Add", 1),
    ("adds", 1),
    ("mirror",),
    (1,),
    (1, "add"),
    (("front",),),
    (None,),
    ("add",),
    ("add", 1, 2, 3, 4, 5, 6, 7, 8, 9),
    ("add", -1),
    ("add", 256),
    ("add", 1, 2, 256),
    ("add", -1, 2),
    ("add", "1"),
    ("add", None),
    ("add", True),
    ("add", 1, False),
    ("add", (1,)),
    ("add", 10 ** 5000),
    ("front", 0),
    ("front", 1, 2),
    ("front", ""),
    ("escape",),
    ("escape", 1, 2),
    ("escape", -1),
    ("escape", 256),
    ("escape", "a"),
    ("escape", True),
    ("escape", None),
    ("escape", 10 ** 5000),
    ("runs", 0),
    ("runs", 255),
    ["front"],
    ["add", 1],
    ["escape", 1],
    ["runs"],
    "front",
    "runs",
    None,
    0,
]


class TestForms(unittest.TestCase):
    def test_each_good_layer_is_made(self):
        for layer in GOOD_SIMPLE:
            with self.subTest(layer=layer):
                self.assertEqual(simple_writer(layer).end(), [])
                self.assertEqual(simple_reader(layer, 0).end(), ([], None))
        for layer in GOOD_MARKED:
            with self.subTest(layer=layer):
                self.assertEqual(marked_writer(layer).end(), [])
                self.assertEqual(marked_reader(layer, 0).end(), ([], None))

    def assert_refused(self, layer, writer, reader):
        with self.subTest(layer=repr(layer)[:60] if not is_huge(layer) else layer[0]):
            self.assertRaises(BadLayer, writer, layer)
            self.assertRaises(BadLayer, reader, layer, 0)

    def test_all_others_are_refused(self):
        for layer in BAD:
            self.assert_refused(layer, simple_writer, simple_reader)
            self.assert_refused(layer, marked_writer, marked_reader)

    def test_each_file_refuses_the_layers_of_the_other(self):
        for layer in GOOD_MARKED:
            self.assert_refused(layer, simple_writer, simple_reader)
        for layer in GOOD_SIMPLE:
            self.assert_refused(layer, marked_writer, marked_reader)


def is_huge(layer):
    """Python does not show a number of so many digits."""
    return isinstance(layer, tuple) and 10 ** 5000 in layer


if __name__ == "__main__":
    unittest.main()
