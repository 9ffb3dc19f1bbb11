"""What several test files use: the four layers made by their tuples, and whole streams in pieces."""

from flowstack.marked import marked_reader, marked_writer
from flowstack.simple import simple_reader, simple_writer

SIMPLE = ("add", "front")

LAYERS = [
    ("add", 7),
    ("add", 0, 1, 2, 3, 100, 200, 254, 255),
    ("front",),
    ("escape", 0),
    ("escape", 253),
    ("escape", 254),
    ("escape", 255),
    ("runs",),
]

ROWS = [
    [],
    [0],
    [255],
    [1, 2, 3],
    [0, 0, 0],
    [255, 255, 0, 0, 254, 253, 1, 2],
    list(range(256)),
    list(range(255, -1, -1)),
    [9] * 254,
    [9] * 255,
    [9] * 256,
    [9] * 511 + [8],
    [number * number * 7 % 256 for number in range(600)],
]


def writer_of(layer):
    return simple_writer(layer) if layer[0] in SIMPLE else marked_writer(layer)


def reader_of(layer, number=0):
    return simple_reader(layer, number) if layer[0] in SIMPLE else marked_reader(layer, number)


def pieces_of(row):
    """The row cut in several ways."""
    third = len(row) // 3
    yield [row]
    yield [[byte] for byte in row]
    yield [[], row[:third], [], row[third:], []]
    yield [row[place:place + 7] for place in range(0, len(row), 7)]


def write_pieces(layer, pieces):
    writer = writer_of(layer)
    told = []
    for piece in pieces:
        told += writer.take(piece)
    return told + writer.end()


def write_all(layer, row):
    return write_pieces(layer, [row])


def read_pieces(layer, pieces, number=0):
    """All bytes that are told, and the fault behind the last piece and behind the end."""
    reader = reader_of(layer, number)
    told = []
    fault = None
    for piece in pieces:
        some, fault = reader.take(piece)
        told += some
    some, last_fault = reader.end()
    return told + some, fault, last_fault


def read_all(layer, row, number=0):
    return read_pieces(layer, [row], number)
