"""The layers chunks and checks, which put bytes into pieces of n, with their lengths or with checks."""

from flowstack.errors import BadLayer
from flowstack.layers import LayerReader, LayerWriter, has_form

CHECK_LENGTH = 2


def is_chunks(layer):
    return has_form(layer, "chunks", 1, 1) and layer[1] > 0


def is_checks(layer):
    return has_form(layer, "checks", 1, 1) and layer[1] > 0


def is_framed(layer):
    return is_chunks(layer) or is_checks(layer)


def framed_writer(layer):
    if is_chunks(layer):
        return ChunksWriter(layer[1])
    if is_checks(layer):
        return ChecksWriter(layer[1])
    raise BadLayer("neither a chunks layer nor a checks layer")


def framed_reader(layer, number):
    """The reader of a layer that has this number in its stack."""
    if is_chunks(layer):
        return ChunksReader(number, layer[1])
    if is_checks(layer):
        return ChecksReader(number, layer[1])
    raise BadLayer("neither a chunks layer nor a checks layer")


class ChunksWriter(LayerWriter):
    """Writes n bytes behind their number; the last chunk is a shorter one, so that its end is seen."""

    def __init__(self, n):
        self.n = n
        self.waiting = []

    def write_byte(self, byte):
        self.waiting.append(byte)
        if len(self.waiting) < self.n:
            return []
        return self.close_chunk()

    def close_chunk(self):
        chunk = [len(self.waiting)] + self.waiting
        self.waiting = []
        return chunk

    def end(self):
        return self.close_chunk()


class ChunksReader(LayerReader):
    """Tells the bytes of each chunk at once."""

    def __init__(self, number, n):
        LayerReader.__init__(self, number)
        self.n = n
        self.to_come = 0
        self.in_last = False

    def read_byte(self, byte):
        if self.to_come == 0:
            return self.read_length(byte)
        self.to_come -= 1
        return [byte]

    def read_length(self, byte):
        if self.in_last or byte > self.n:
            return self.wrong()
        self.to_come = byte
        self.in_last = byte < self.n
        return []

    def is_within(self):
        return self.to_come > 0 or not self.in_last


class RunningCheck:
    """The check of all bytes so far."""

    def __init__(self):
        self.check = 0

    def count_byte(self, byte):
        self.check = (self.check * 257 + byte + 1) % 65521

    def as_bytes(self):
        return [self.check // 256, self.check % 256]


class ChecksWriter(LayerWriter):
    """Writes bytes as they are, and the check behind each n of them and at the end."""

    def __init__(self, n):
        self.n = n
        self.running = RunningCheck()
        self.unchecked = 0

    def write_byte(self, byte):
        self.running.count_byte(byte)
        self.unchecked += 1
        if self.unchecked < self.n:
            return [byte]
        self.unchecked = 0
        return [byte] + self.running.as_bytes()

    def end(self):
        return self.running.as_bytes()


class ChecksReader(LayerReader):
    """Holds bytes back until their check is there and is right."""

    def __init__(self, number, n):
        LayerReader.__init__(self, number)
        self.n = n
        self.running = RunningCheck()
        self.waiting = []

    def read_byte(self, byte):
        self.waiting.append(byte)
        # Until the stream ends, its last check can not be told from bytes, so n of them and a check are waited for.
        if len(self.waiting) < self.n + CHECK_LENGTH:
            return []
        return self.release()

    def release(self):
        """The bytes ahead of the check that came last, if it is right."""
        length = len(self.waiting) - CHECK_LENGTH
        checked = self.waiting[:length]
        check = self.waiting[length:]
        self.waiting = []
        for byte in checked:
            self.running.count_byte(byte)
        if check != self.running.as_bytes():
            return self.wrong()
        return checked

    def is_within(self):
        return len(self.waiting) < CHECK_LENGTH

    def read_end(self):
        return self.release()
