"""The layer signs, which writes bytes in 64 signs, six binary digits each."""

from flowstack.errors import BadLayer
from flowstack.layers import LayerReader, LayerWriter, has_form

SIGNS = "-0123456789ABCDEFGHIJKLMNOPQRSTUVWXYZ_abcdefghijklmnopqrstuvwxyz"
BYTE_WIDTH = 8
SIGN_WIDTH = 6


def is_signs(layer):
    return has_form(layer, "signs", 0, 0)


def signs_writer(layer):
    if is_signs(layer):
        return SignsWriter()
    raise BadLayer("not a signs layer")


def signs_reader(layer, number):
    """The reader of a layer that has this number in its stack."""
    if is_signs(layer):
        return SignsReader(number)
    raise BadLayer("not a signs layer")


def sign_of(group):
    return ord(SIGNS[group])


def groups_by_sign():
    groups = {}
    for group in range(len(SIGNS)):
        groups[sign_of(group)] = group
    return groups


class HeldDigits:
    """Binary digits that wait until there are enough of them, the heaviest first."""

    def __init__(self):
        self.held = 0
        self.width = 0

    def push(self, number, width):
        self.held = (self.held << width) + number
        self.width += width

    def draw_digits(self, width):
        """The number of the first so many digits, which are held no longer."""
        self.width -= width
        number = self.held >> self.width
        self.held -= number << self.width
        return number


class SignsWriter(LayerWriter):
    """Writes a sign for each six digits."""

    def __init__(self):
        self.digits = HeldDigits()

    def write_byte(self, byte):
        self.digits.push(byte, BYTE_WIDTH)
        told = []
        while self.digits.width >= SIGN_WIDTH:
            told.append(sign_of(self.digits.draw_digits(SIGN_WIDTH)))
        return told

    def end(self):
        if self.digits.width == 0:
            return []
        self.digits.push(0, SIGN_WIDTH - self.digits.width)
        return [sign_of(self.digits.draw_digits(SIGN_WIDTH))]


class SignsReader(LayerReader):
    """Tells a byte for each eight digits."""

    def __init__(self, number):
        LayerReader.__init__(self, number)
        self.groups = groups_by_sign()
        self.digits = HeldDigits()

    def read_byte(self, byte):
        if byte not in self.groups:
            return self.wrong()
        self.digits.push(self.groups[byte], SIGN_WIDTH)
        if self.digits.width < BYTE_WIDTH:
            return []
        return [self.digits.draw_digits(BYTE_WIDTH)]

    def is_within(self):
        # Six digits without a byte's end among them: no stream is filled up by a whole sign.
        return self.digits.width == SIGN_WIDTH

    def read_end(self):
        if self.digits.held != 0:
            return self.wrong()
        return []
