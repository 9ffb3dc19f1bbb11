"""The layers add and front, which write one byte for each byte and can read every stream."""

from flowstack.errors import BadLayer
from flowstack.layers import LayerReader, LayerWriter, has_form


def is_add(layer):
    return has_form(layer, "add", 1, 8)


def is_front(layer):
    return has_form(layer, "front", 0, 0)


def is_simple(layer):
    return is_add(layer) or is_front(layer)


def simple_writer(layer):
    if is_add(layer):
        return AddWriter(layer[1:])
    if is_front(layer):
        return FrontWriter()
    raise BadLayer("neither an add layer nor a front layer")


def simple_reader(layer, number):
    """The reader of a layer that has this number in its stack."""
    if is_add(layer):
        return AddReader(number, layer[1:])
    if is_front(layer):
        return FrontReader(number)
    raise BadLayer("neither an add layer nor a front layer")


class TurningKey:
    """The bytes of a key one by one, from the beginning again behind the last one."""

    def __init__(self, key):
        self.key = key
        self.turn = 0

    def draw(self):
        byte = self.key[self.turn]
        self.turn = (self.turn + 1) % len(self.key)
        return byte


class AddWriter(LayerWriter):
    """Adds to each byte the next one of the key."""

    def __init__(self, key):
        self.turning = TurningKey(key)

    def write_byte(self, byte):
        return [(byte + self.turning.draw()) % 256]


class AddReader(LayerReader):
    """Takes the next one of the key off each byte again."""

    def __init__(self, number, key):
        LayerReader.__init__(self, number)
        self.turning = TurningKey(key)

    def read_byte(self, byte):
        return [(byte - self.turning.draw()) % 256]


class FrontRow:
    """All bytes in a row, the one that came last at the front."""

    def __init__(self):
        self.standing = list(range(256))

    def place_of(self, byte):
        return self.standing.index(byte)

    def bring_forward(self, place):
        """The byte at this place, which from now on stands at the front."""
        byte = self.standing.pop(place)
        self.standing.insert(0, byte)
        return byte


class FrontWriter(LayerWriter):
    """Writes of each byte its place in the row."""

    def __init__(self):
        self.front_row = FrontRow()

    def write_byte(self, byte):
        place = self.front_row.place_of(byte)
        self.front_row.bring_forward(place)
        return [place]


class FrontReader(LayerReader):
    """Tells of each place the byte that stands there."""

    def __init__(self, number):
        LayerReader.__init__(self, number)
        self.front_row = FrontRow()

    def read_byte(self, byte):
        return [self.front_row.bring_forward(byte)]
