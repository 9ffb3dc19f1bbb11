"""What several test files use: layers and stacks made by their tuples, whole streams in pieces, and all layers a second
time, after the document's words, to hold the program against."""

import base64
import itertools

from flowstack.framed import framed_reader, framed_writer
from flowstack.marked import marked_reader, marked_writer
from flowstack.signs import signs_reader, signs_writer
from flowstack.simple import simple_reader, simple_writer
from flowstack.stacks import Reader, Writer

WRITERS = {
    "add": simple_writer, "front": simple_writer, "escape": marked_writer, "runs": marked_writer,
    "chunks": framed_writer, "checks": framed_writer, "signs": signs_writer,
}
READERS = {
    "add": simple_reader, "front": simple_reader, "escape": marked_reader, "runs": marked_reader,
    "chunks": framed_reader, "checks": framed_reader, "signs": signs_reader,
}

LAYERS = [
    ("add", 7),
    ("add", 0, 1, 2, 3, 100, 200, 254, 255),
    ("front",),
    ("escape", 0),
    ("escape", 253),
    ("escape", 254),
    ("escape", 255),
    ("runs",),
    ("chunks", 1),
    ("chunks", 3),
    ("chunks", 255),
    ("checks", 1),
    ("checks", 4),
    ("checks", 255),
    ("signs",),
]

EIGHT_LAYERS = [
    ("front",), ("runs",), ("add", 1, 255), ("escape", 45), ("chunks", 5), ("checks", 3), ("signs",), ("add", 200),
]

STACKS = [
    [],
    [("runs",)],
    [("checks", 3)],
    [("runs",), ("runs",)],
    [("checks", 2), ("checks", 3)],
    [("chunks", 4), ("runs",)],
    [("signs",), ("escape", 95)],
    [("runs",), ("chunks", 3), ("checks", 4)],
    [("checks", 2), ("signs",), ("runs",)],
    [("add", 3), ("escape", 0), ("front",)],
    EIGHT_LAYERS,
    [("signs",)] * 8,
]

ROWS = [
    [],
    [0],
    [255],
    [1, 2, 3],
    [0, 0, 0],
    [255, 255, 0, 0, 254, 253, 1, 2],
    list(range(256)),
    list(range(255, -1, -1)),
    [9] * 254,
    [9] * 255,
    [9] * 256,
    [9] * 511 + [8],
    [number * number * 7 % 256 for number in range(600)],
]


def writer_of(layer):
    """The writer of one layer by itself, or of a list of layers."""
    return Writer(layer) if isinstance(layer, list) else WRITERS[layer[0]](layer)


def reader_of(layer, number=0):
    return Reader(layer) if isinstance(layer, list) else READERS[layer[0]](layer, number)


def pieces_of(row):
    """The row cut in several ways."""
    third = len(row) // 3
    yield [row]
    yield [[byte] for byte in row]
    yield [[], row[:third], [], row[third:], []]
    yield [row[place:place + 7] for place in range(0, len(row), 7)]


def write_pieces(layer, pieces):
    writer = writer_of(layer)
    told = []
    for piece in pieces:
        told += writer.take(piece)
    return told + writer.end()


def write_all(layer, row):
    return write_pieces(layer, [row])


def write_steps(layer, row):
    """What is told with each byte, and at the end."""
    writer = writer_of(layer)
    return [writer.take([byte]) for byte in row] + [writer.end()]


def read_pieces(layer, pieces, number=0):
    """All bytes that are told, and the fault behind the last piece and behind the end."""
    reader = reader_of(layer, number)
    told = []
    fault = None
    for piece in pieces:
        some, fault = reader.take(piece)
        told += some
    some, last_fault = reader.end()
    return told + some, fault, last_fault


def read_all(layer, row, number=0):
    return read_pieces(layer, [row], number)


def read_steps(layer, row):
    """The pairs told with each byte, and at the end."""
    reader = reader_of(layer)
    return [reader.take([byte]) for byte in row] + [reader.end()]


# From here on all layers stand a second time, over whole rows. What a layer makes of a row is a list of pairs: the place
# of the byte with which something is told, or END, and the byte that is told.

END = 10 ** 9
SIGNS = [45, *range(48, 58), *range(65, 91), 95, *range(97, 123)]
COMMON_SIGNS = b"ABCDEFGHIJKLMNOPQRSTUVWXYZabcdefghijklmnopqrstuvwxyz0123456789+/"


def check_of(row):
    check = sum((byte + 1) * 257 ** power for power, byte in enumerate(reversed(row))) % 65521
    return list(check.to_bytes(2, "big"))


def places_of(row):
    """Of each byte: how many others came since it came last, or, if it never came, stand ahead of it."""
    places = []
    for at, byte in enumerate(row):
        ahead = row[:at]
        if byte in ahead:
            since = ahead[len(ahead) - ahead[::-1].index(byte):]
            places.append(len(set(since)))
        else:
            places.append(byte + len([other for other in set(ahead) if other > byte]))
    return places


def signs_of(row):
    common = base64.b64encode(bytes(row)).rstrip(b"=")
    return [SIGNS[COMMON_SIGNS.index(sign)] for sign in common]


def escaped(b, byte):
    c, d, e = [(b + step) % 256 for step in (1, 2, 3)]
    return {b: [c, d], c: [c, e]}.get(byte, [byte])


def runs_by_words(row):
    told, at = [], 0
    for byte, group in itertools.groupby(row):
        left = len(list(group))
        while left > 0:
            count = min(left, 255)
            at, left = at + count, left - count
            when = at - 1 if count == 255 else at if at < len(row) else END
            told += [(when, count), (when, byte)]
    return told


def framed_by_words(layer, row):
    word, n = layer
    told = []
    for first in range(0, len(row) + 1, n):
        piece = row[first:first + n]
        last = first + n - 1 if len(piece) == n else END
        if word == "chunks":
            told += [(last, byte) for byte in [len(piece)] + piece]
        else:
            told += [(first + place, byte) for place, byte in enumerate(piece)]
            told += [(last, byte) for byte in check_of(row[:first + n])]
    return told


def write_by_words(layer, row):
    word, numbers = layer[0], layer[1:]
    if word == "add":
        return [(at, (byte + numbers[at % len(numbers)]) % 256) for at, byte in enumerate(row)]
    if word == "front":
        return list(enumerate(places_of(row)))
    if word == "escape":
        return [(at, part) for at, byte in enumerate(row) for part in escaped(numbers[0], byte)]
    if word == "runs":
        return runs_by_words(row)
    if word == "signs":
        ends = [(at * 6 + 5) // 8 for at in range(len(row) * 2)]
        return [(at if at < len(row) else END, sign) for at, sign in zip(ends, signs_of(row))]
    return framed_by_words(layer, row)


def write_steps_by_words(layers, row):
    """What comes of each byte of a row through layers, and at the end."""
    come = list(enumerate(row))
    for layer in layers:
        told = write_by_words(layer, [byte for _, byte in come])
        come = [(END if place == END else come[place][0], byte) for place, byte in told]
    return [[byte for place, byte in come if place == at] for at in [*range(len(row)), END]]


# What a layer reads of a row: such pairs again, then where it has its fault (a place, or END), or None, and which one.


def read_escape_by_words(b, row):
    told, at = [], 0
    c, d, e = [(b + step) % 256 for step in (1, 2, 3)]
    while at < len(row):
        if row[at] == b:
            return told, at, "wrong"
        if row[at] != c:
            told.append((at, row[at]))
            at += 1
        elif at + 1 == len(row):
            return told, END, "cut"
        elif row[at + 1] not in (d, e):
            return told, at + 1, "wrong"
        else:
            told.append((at + 1, b if row[at + 1] == d else c))
            at += 2
    return told, None, None


def read_runs_by_words(row):
    told = []
    for at in range(0, len(row), 2):
        if row[at] == 0:
            return told, at, "wrong"
        if at + 1 == len(row):
            return told, END, "cut"
        if at > 0 and row[at - 1] == row[at + 1] and row[at - 2] < 255:
            return told, at + 1, "wrong"
        told += [(at + 1, row[at + 1])] * row[at]
    return told, None, None


def read_chunks_by_words(n, row):
    told, at, length = [], 0, n
    while length == n:
        if at == len(row):
            return told, END, "cut"
        length = row[at]
        if length > n:
            return told, at, "wrong"
        told += list(enumerate(row))[at + 1:at + 1 + length]
        at += 1 + length
        if at > len(row):
            return told, END, "cut"
    return (told, at, "wrong") if at < len(row) else (told, None, None)


def read_checks_by_words(n, row):
    told, whole, at = [], [], 0
    while at + n + 2 <= len(row):
        whole += row[at:at + n]
        if row[at + n:at + n + 2] != check_of(whole):
            return told, at + n + 1, "wrong"
        told += [(at + n + 1, byte) for byte in row[at:at + n]]
        at += n + 2
    left = row[at:]
    if len(left) < 2:
        return told, END, "cut"
    if left[-2:] != check_of(whole + left[:-2]):
        return told, END, "wrong"
    return told + [(END, byte) for byte in left[:-2]], None, None


def read_signs_by_words(row):
    bad = [at for at, byte in enumerate(row) if byte not in SIGNS]
    good = row[:bad[0]] if bad else row
    digits = "".join(f"{SIGNS.index(byte):06b}" for byte in good)
    firsts = range(0, len(digits) - 7, 8)
    told = [((first + 7) // 6, int(digits[first:first + 8], 2)) for first in firsts]
    if bad:
        return told, bad[0], "wrong"
    if len(row) % 4 == 1:
        return told, END, "cut"
    return (told, END, "wrong") if "1" in digits[len(told) * 8:] else (told, None, None)


def read_front_by_words(row):
    standing, told = list(range(256)), []
    for at, place in enumerate(row):
        told.append((at, standing[place]))
        standing = [standing[place]] + standing[:place] + standing[place + 1:]
    return told, None, None


def read_by_words(layer, row):
    word, numbers = layer[0], layer[1:]
    if word == "add":
        return [(at, (byte - numbers[at % len(numbers)]) % 256) for at, byte in enumerate(row)], None, None
    if word == "front":
        return read_front_by_words(row)
    if word == "escape":
        return read_escape_by_words(numbers[0], row)
    if word == "runs":
        return read_runs_by_words(row)
    if word == "chunks":
        return read_chunks_by_words(numbers[0], row)
    if word == "checks":
        return read_checks_by_words(numbers[0], row)
    return read_signs_by_words(row)


def read_steps_by_words(layers, stream):
    """The pairs told of each byte of a stream through layers, and at the end.

    Each layer reads all that comes to it; each byte bears its time, a tuple that tells of which byte it came as the
    how-manieth. Of the faults the one of the first time counts, and what has a later time is struck out.
    """
    come = [((at,), byte) for at, byte in enumerate(stream)]
    faults = []
    for number in reversed(range(len(layers))):
        told, at, kind = read_by_words(layers[number], [byte for _, byte in come])
        end = (END + len(layers) - number,)
        if at is not None:
            place = len(come) - 1 if at == END else at
            fault = ("cut", number) if kind == "cut" else ("wrong", number, place)
            faults.append((end if at == END else come[at][0], fault))
        come = [((end if place == END else come[place][0]) + (turn,), byte) for turn, (place, byte) in enumerate(told)]
    time, fault = min(faults, default=((2 * END,), None))
    steps = [[] for _ in range(len(stream) + 1)]
    for when, byte in come:
        if when < time:
            steps[min(when[0], len(stream))].append(byte)
    return [(told, fault if min(time[0], len(stream)) <= at else None) for at, told in enumerate(steps)]
