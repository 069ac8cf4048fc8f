"""Point 17: codes of rows."""

import random
import unittest

from barrelrow.codes import decode_row, encode_row
from barrelrow.errors import DecodeError
from barrelrow.rows import Row
from tests.samples import FAR, example, random_slow_row, slow_rows, small_row

ODD_ITEMS = (-1, 0, 1, 2, 5, 6, 8, 9, 12, 13, 26, 27, 82, 83, 100, 101, 9948, 9949, 10 ** 6, 10 ** 6 + 1, 10 ** 9,
             10 ** 9 + 1, -10 ** 9, FAR, True, False)


def sum_of(items):
    total = 0
    weight = 2
    for item in items:
        total += weight * item
        weight += 1
    return total % 9949


def plain_code(row):
    code = [82, len(row.rain)]
    code += row.rain
    code += [len(row.barrels)]
    for name, capacity, roof, draws in row.barrels:
        code += [len(name)] + [" abcdefghijklmnopqrstuvwxyz".index(letter) for letter in name]
        code += [capacity, roof]
        code += draws
    return code + [sum_of(code)]


class Wrong(Exception):
    """A code is wrong at the offset that is the argument."""


def decode_plainly(code):
    """Return the rain and the barrels of a code; raise Wrong."""
    at = [0]

    def item(least, greatest):
        if at[0] >= len(code):
            raise Wrong(len(code))
        found = code[at[0]]
        if type(found) is not int or found < least or found > greatest:
            raise Wrong(at[0])
        at[0] += 1
        return found

    item(82, 82)
    ticks = item(1, 12)
    rain = [item(0, 1000000) for _ in range(ticks)]
    barrels = []
    for _ in range(item(1, 5)):
        begin = at[0]
        name = "".join([chr(96 + item(1, 26)) for _ in range(item(1, 8))])
        if [barrel for barrel in barrels if barrel[0] == name]:
            raise Wrong(begin)
        barrels.append((name, item(0, 1000000000), item(0, 100), tuple(item(0, 1000000000) for _ in range(ticks))))
    right = sum_of(code[:at[0]])
    item(right, right)
    if at[0] != len(code):
        raise Wrong(at[0])
    return tuple(rain), tuple(barrels)


class Codes(unittest.TestCase):
    def offset(self, code):
        with self.assertRaises(DecodeError) as caught:
            decode_row(code)
        return caught.exception.offset

    def check(self, code):
        """The code is decoded as it should be; return the offset at which it is wrong, or None."""
        before = list(code)
        try:
            rain, barrels = decode_plainly(code)
        except Wrong as wrong:
            self.assertEqual(self.offset(code), wrong.args[0], code)
            found = wrong.args[0]
        else:
            row = decode_row(code)
            self.assertEqual((row.rain, row.barrels), (rain, barrels))
            self.assertEqual(encode_row(row), code)
            found = None
        self.assertEqual(code, before)
        return found

    def test_back_and_forth(self):
        rng = random.Random(171)
        for row in slow_rows() + [small_row(rng) for _ in range(200)] + [random_slow_row(rng) for _ in range(50)]:
            code = encode_row(row)
            self.assertEqual(code, plain_code(row))
            self.assertIs(type(code), list)
            self.assertEqual([type(item) for item in code], [int] * len(code))
            self.assertEqual(decode_row(code), row)
            self.assertIsNone(self.check(code))

    def test_a_code(self):
        row = Row((10 ** 6, 0), ("az", 10 ** 9, 100, (0, 10 ** 9)), ("b", 0, 0, (7, 8)))
        code = [82, 2, 10 ** 6, 0, 2, 2, 1, 26, 10 ** 9, 100, 0, 10 ** 9, 1, 2, 0, 0, 7, 8]
        self.assertEqual(encode_row(row=row)[:-1], code)
        self.assertEqual(decode_row(code=code + [sum_of(code)]), row)

    def test_each_item_changed(self):
        rng = random.Random(172)
        barrels = [(name, 1, 1, (1,) * 12) for name in ("a", "b", "ab", "ba", "abcdefgh")]
        for row in (example(), Row((0,) * 12, *barrels)):
            code = encode_row(row)
            for at in range(len(code)):
                for item in ODD_ITEMS + (code[at] - 1, code[at] + 1, rng.randint(0, 30)):
                    changed = code[:at] + [item] + code[at + 1:]
                    self.check(changed)
                    self.check(changed[:-1] + [sum_of(changed[:-1])])
                    self.check(code[:at] + [item] + code[at:])

    def test_each_item_left_out(self):
        rng = random.Random(173)
        for row in [example()] + [small_row(rng) for _ in range(60)]:
            code = encode_row(row)
            for at in range(len(code)):
                self.check(code[:at] + code[at + 1:])
                self.assertEqual(self.offset(code[:at]), at)

    def test_random_changes(self):
        rng = random.Random(174)
        found = {}
        for _ in range(4000):
            code = encode_row(small_row(rng, 1, 3))
            for _ in range(rng.randint(1, 3)):
                at = rng.randrange(len(code))
                code[at:at + rng.randrange(2)] = rng.choice(([], [rng.choice(ODD_ITEMS)], [rng.randint(0, 26)]))
                code = code or [82]
            if rng.randrange(3) == 0:
                code[-1] = sum_of(code[:-1])
            found[self.check(code)] = True
        self.assertGreater(len(found), 20)

    def test_names_of_barrels_before(self):
        code = [82, 1, 3, 3, 2, 1, 2, 5, 1, 0, 1, 2, 5, 1, 0, 2, 1, 2, 5, 1, 0]
        self.assertEqual(self.offset(code + [sum_of(code)]), 15)
        # It is the offset of the name, whatever comes behind it, unless its letters are wrong.
        self.assertEqual(self.offset(code[:18]), 15)
        self.assertEqual(self.offset(code[:18] + [-1]), 15)
        self.assertEqual(self.offset(code[:17]), 17)
        self.assertEqual(self.offset(code[:17] + [27]), 17)
        code[17] = 3
        self.assertEqual(decode_row(code + [sum_of(code)]).names, ("ab", "b", "ac"))

    def test_checksums_and_more(self):
        code = encode_row(example())
        size = len(code)
        for wrong in (code[-1] + 1, code[-1] - 1, code[-1] + 9949, code[-1] - 9949, -1, True):
            self.assertEqual(self.offset(code[:-1] + [wrong]), size - 1)
            self.assertEqual(self.offset(code[:-1] + [wrong, 3]), size - 1)
        for more in ([0], [code[-1]], [1, 2, 3], [-1], [True]):
            self.assertEqual(self.offset(code + more), size)
        self.assertEqual(self.offset(code[:-1]), size - 1)

    def test_checksums_that_a_boolean_equals(self):
        # The sum of this row is 1: True in its place is no integer.
        for capacity in range(9949):
            code = encode_row(Row((0,), ("a", capacity, 0, (0,))))
            if code[-1] == 1:
                self.assertIsNone(self.check(code))
                self.assertEqual(self.offset(code[:-1] + [True]), len(code) - 1)
                return
        self.fail("no such row")

    def test_ends_of_each_range(self):
        self.assertEqual(self.offset([]), 0)
        self.assertEqual([self.offset([81]), self.offset([83]), self.offset([82])], [0, 0, 1])
        for ticks, offset in ((0, 1), (13, 1), (1, 2), (12, 2)):
            self.assertEqual(self.offset([82, ticks]), offset)
        for start, least, greatest in (([82, 1], 0, 10 ** 6), ([82, 1, 0], 1, 5), ([82, 1, 0, 1], 1, 8),
                                       ([82, 1, 0, 1, 1], 1, 26), ([82, 1, 0, 1, 1, 1], 0, 10 ** 9),
                                       ([82, 1, 0, 1, 1, 1, 0], 0, 100), ([82, 1, 0, 1, 1, 1, 0, 0], 0, 10 ** 9)):
            size = len(start)
            self.assertEqual([self.offset(start + [item]) for item in (least - 1, least, greatest, greatest + 1)],
                             [size, size + 1, size + 1, size])

    def test_what_is_returned_may_be_modified(self):
        row = example()
        code = encode_row(row)
        code.append(3)
        code[2] = 99
        self.assertEqual(encode_row(row), plain_code(row))
        code = encode_row(row)
        again = decode_row(code)
        code.clear()
        self.assertEqual(again, row)


if __name__ == "__main__":
    unittest.main()
