"""Streams written and read through layers, one upon the other."""

from flowstack.errors import BadLayer
from flowstack.framed import framed_reader, framed_writer, is_framed
from flowstack.marked import is_marked, marked_reader, marked_writer
from flowstack.signs import is_signs, signs_reader, signs_writer
from flowstack.simple import is_simple, simple_reader, simple_writer

MOST_LAYERS = 8


def written(layers, row):
    """The whole stream."""
    writer = Writer(layers)
    stream = writer.take(row)
    return stream + writer.end()


def read(layers, row):
    """The pair of all bytes of a whole stream, and the fault, or None."""
    reader = Reader(layers)
    come = reader.take(row)
    last = reader.end()
    return (come[0] + last[0], last[1])


def refuse_too_many(layers):
    if len(layers) > MOST_LAYERS:
        raise BadLayer(f"more than {MOST_LAYERS} layers")


def layer_writer(layer):
    if is_simple(layer):
        return simple_writer(layer)
    if is_marked(layer):
        return marked_writer(layer)
    if is_framed(layer):
        return framed_writer(layer)
    if is_signs(layer):
        return signs_writer(layer)
    raise BadLayer("none of the seven layers")


def layer_reader(layer, number):
    """The reader of a layer that has this number in its stack."""
    if is_simple(layer):
        return simple_reader(layer, number)
    if is_marked(layer):
        return marked_reader(layer, number)
    if is_framed(layer):
        return framed_reader(layer, number)
    if is_signs(layer):
        return signs_reader(layer, number)
    raise BadLayer("none of the seven layers")


class Writer:
    """Writes a stream through layers, the first one first."""

    def __init__(self, layers):
        refuse_too_many(layers)
        self.writers = [layer_writer(layer) for layer in layers]

    def take(self, row):
        """The bytes that come of these."""
        told = list(row)
        for writer in self.writers:
            told = writer.take(told)
        return told

    def end(self):
        """The bytes that come at the end."""
        told = []
        for writer in self.writers:
            # What the layers ahead wrote at their end is not the end for this one.
            told = writer.take(told) + writer.end()
        return told


class Reader:
    """Reads a stream through layers, the last one first."""

    def __init__(self, layers):
        refuse_too_many(layers)
        self.readers = [layer_reader(layer, number) for number, layer in enumerate(layers)]
        self.fault = None

    def take(self, row):
        """The pair of the bytes told of these, and the fault, or None."""
        told = []
        self.pass_on(len(self.readers), row, told)
        return (told, self.fault)

    def end(self):
        """The pair of the bytes told at the end, and the fault, or None."""
        told = []
        for number in range(len(self.readers) - 1, -1, -1):
            if self.fault is not None:
                break
            self.pass_told(number, self.readers[number].end(), told)
        return (told, self.fault)

    def pass_on(self, layers_left, row, told):
        """Each byte goes through all layers left for it before the next one does, so that the first fault is found."""
        for byte in row:
            if self.fault is not None:
                break
            if layers_left == 0:
                told.append(byte)
            else:
                number = layers_left - 1
                self.pass_told(number, self.readers[number].take([byte]), told)

    def pass_told(self, number, pair, told):
        """Passes on what the layer of this number told, and ends the reading if that layer has a fault."""
        self.pass_on(number, pair[0], told)
        if self.fault is None:
            self.fault = pair[1]
