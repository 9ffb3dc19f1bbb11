"""What all layers share: how their tuples are looked at, and the frame of their writers and readers."""


def is_byte(value):
    return isinstance(value, int) and not isinstance(value, bool) and 0 <= value <= 255


def has_form(layer, word, fewest, most):
    """Whether a layer is this word and, behind it, so many bytes."""
    if not isinstance(layer, tuple) or len(layer) == 0 or layer[0] != word:
        return False
    numbers = layer[1:]
    return fewest <= len(numbers) <= most and all([is_byte(number) for number in numbers])


class LayerWriter:
    """Writes one layer.

    By itself it leaves bytes as they are; each layer has its own write_byte, and its own end if need be.
    """

    def take(self, row):
        """The bytes that are known once these have come."""
        told = []
        for byte in row:
            told.extend(self.write_byte(byte))
        return told

    def write_byte(self, byte):
        return [byte]

    def end(self):
        """The bytes that come at the end of the stream."""
        return []


class LayerReader:
    """Reads one layer, whose number its faults tell.

    By itself it leaves bytes as they are; each layer has its own read_byte, and, if need be, is_within and read_end.
    """

    def __init__(self, number):
        self.number = number
        self.arrived = 0
        self.fault = None

    def take(self, row):
        """The pair of the bytes told of these, and the fault, or None."""
        told = []
        for byte in row:
            if self.fault is not None:
                break
            self.arrived += 1
            told.extend(self.read_byte(byte))
        return (told, self.fault)

    def read_byte(self, byte):
        return [byte]

    def is_within(self):
        """Whether the stream can not end here."""
        return False

    def read_end(self):
        """The bytes told at the end of a stream that can end here."""
        return []

    def wrong(self):
        """Nothing is told but that the byte that came last is wrong."""
        self.fault = ("wrong", self.number, self.arrived - 1)
        return []

    def end(self):
        """The pair of the bytes told at the end of the stream, and the fault, or None."""
        told = []
        if self.fault is None:
            if self.is_within():
                self.fault = ("cut", self.number)
            else:
                told = self.read_end()
        return (told, self.fault)
