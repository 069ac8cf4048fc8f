"""Rows as lists of integers."""

from barrelrow.errors import DecodeError
from barrelrow.rows import MAX_CAPACITY, MAX_FALL, MAX_LETTERS, MAX_ROOF, MAX_WISH, Row, is_number

FIRST_ITEM = 82
MODULUS = 9949
LETTERS = "abcdefghijklmnopqrstuvwxyz"


def checksum_of(items):
    """Return the checksum that follows these items."""
    return sum([(offset + 2) * item for offset, item in enumerate(items)]) % MODULUS


def encode_row(row):
    """Return the code of a row."""
    code = [FIRST_ITEM, len(row.rain), *row.rain, len(row)]
    for name, capacity, roof, draws in row.barrels:
        letters = [LETTERS.index(letter) + 1 for letter in name]
        code.extend([len(name), *letters, capacity, roof, *draws])
    code.append(checksum_of(code))
    return code


class CodeReader:
    """Takes one item of a code after another."""

    def __init__(self, code):
        self.code = code
        self.place = 0

    def take(self, least, greatest):
        """Return the next item; raise DecodeError unless it is there and in this range."""
        if self.place == len(self.code) or not is_number(self.code[self.place], least, greatest):
            raise DecodeError(offset=self.place)
        self.place += 1
        return self.code[self.place - 1]

    def take_some(self, count, greatest):
        """Return so many items from 0 on as a tuple."""
        return tuple([self.take(0, greatest) for _ in range(count)])


def decode_row(code):
    """Return the row of a code."""
    reader = CodeReader(code)
    reader.take(FIRST_ITEM, FIRST_ITEM)
    ticks = reader.take(1, Row.MAX_TICKS)
    rain = reader.take_some(ticks, MAX_FALL)
    barrels = []
    for _ in range(reader.take(1, Row.MAX_BARRELS)):
        names = [barrel[0] for barrel in barrels]
        barrels.append(take_barrel(reader, ticks, names))
    checksum = checksum_of(code[:reader.place])
    reader.take(checksum, checksum)
    if reader.place < len(code):
        raise DecodeError(offset=reader.place)
    return Row(rain, *barrels)


def take_barrel(reader, ticks, names):
    """Return the next barrel; raise DecodeError if its name is one of these."""
    start = reader.place
    size = reader.take(1, MAX_LETTERS)
    name = "".join([LETTERS[reader.take(1, len(LETTERS)) - 1] for _ in range(size)])
    if name in names:
        raise DecodeError(offset=start)
    capacity = reader.take(0, MAX_CAPACITY)
    roof = reader.take(0, MAX_ROOF)
    return name, capacity, roof, reader.take_some(ticks, MAX_WISH)
