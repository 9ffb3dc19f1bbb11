"""The layers escape and runs, which write two bytes that belong together, so that a stream may be wrong or cut."""

from flowstack.errors import BadLayer
from flowstack.layers import LayerReader, LayerWriter, has_form

LONGEST_RUN = 255


def is_escape(layer):
    return has_form(layer, "escape", 1, 1)


def is_runs(layer):
    return has_form(layer, "runs", 0, 0)


def is_marked(layer):
    return is_escape(layer) or is_runs(layer)


def marked_writer(layer):
    if is_escape(layer):
        return EscapeWriter(layer[1])
    if is_runs(layer):
        return RunsWriter()
    raise BadLayer("neither an escape layer nor a runs layer")


def marked_reader(layer, number):
    """The reader of a layer that has this number in its stack."""
    if is_escape(layer):
        return EscapeReader(number, layer[1])
    if is_runs(layer):
        return RunsReader(number)
    raise BadLayer("neither an escape layer nor a runs layer")


def behind(byte, steps):
    """The byte so many steps behind this one, by 256 round."""
    return (byte + steps) % 256


class EscapeWriter(LayerWriter):
    """Keeps the byte b out of the stream."""

    def __init__(self, b):
        c = behind(b, 1)
        self.pairs = {b: (c, behind(b, 2)), c: (c, behind(b, 3))}

    def write_byte(self, byte):
        return list(self.pairs.get(byte, (byte,)))


class EscapeReader(LayerReader):
    """Puts b and c back in the place of their pairs."""

    def __init__(self, number, b):
        LayerReader.__init__(self, number)
        self.b = b
        self.c = behind(b, 1)
        self.meanings = {behind(b, 2): self.b, behind(b, 3): self.c}
        self.behind_c = False

    def read_byte(self, byte):
        if self.behind_c:
            return self.read_second(byte)
        if byte == self.b:
            return self.wrong()
        if byte == self.c:
            self.behind_c = True
            return []
        return [byte]

    def read_second(self, byte):
        if byte not in self.meanings:
            return self.wrong()
        self.behind_c = False
        return [self.meanings[byte]]

    def is_within(self):
        return self.behind_c


class RunsWriter(LayerWriter):
    """Writes of each run its count and its byte."""

    def __init__(self):
        self.count = 0
        self.byte = 0

    def write_byte(self, byte):
        told = []
        if byte != self.byte:
            told.extend(self.close_run())
        self.byte = byte
        self.count += 1
        if self.count == LONGEST_RUN:
            told.extend(self.close_run())
        return told

    def close_run(self):
        """The run so far, nothing if none has begun; the next byte begins a new one."""
        if self.count == 0:
            return []
        run = [self.count, self.byte]
        self.count = 0
        return run

    def end(self):
        return self.close_run()


class RunsReader(LayerReader):
    """Tells each run with its second byte."""

    def __init__(self, number):
        LayerReader.__init__(self, number)
        self.count = 0
        self.barred = None

    def read_byte(self, byte):
        if self.count == 0:
            return self.read_count(byte)
        return self.read_run(byte)

    def read_count(self, byte):
        if byte == 0:
            return self.wrong()
        self.count = byte
        return []

    def read_run(self, byte):
        if byte == self.barred:
            return self.wrong()
        run = [byte] * self.count
        # A shorter run ended because another byte came, so its own byte can not come next.
        self.barred = None if self.count == LONGEST_RUN else byte
        self.count = 0
        return run

    def is_within(self):
        return self.count > 0
