"""Points 2 and 3: rows, their faults and their signs."""

import random
import unittest
from unittest import mock

from barrelrow.errors import InvalidNumber, InvalidRow, OtherRain, UnknownBarrel
from barrelrow.rows import Row
from tests.samples import NAMES, example, small_barrels, small_rain, small_row


def wrong_number(number, greatest):
    return number is True or number is False or number < 0 or number > greatest


def wrong_barrel(barrel, ticks):
    name, capacity, roof, draws = barrel
    letters = "abcdefghijklmnopqrstuvwxyz"
    return (len(name) not in range(1, 9) or any(sign not in letters for sign in name)
            or wrong_number(capacity, 1000000000) or wrong_number(roof, 100) or len(draws) != ticks
            or any(wrong_number(wish, 1000000000) for wish in draws))


def first_fault(rain, barrels):
    """Return the part and the index of the first fault, or None."""
    if len(rain) == 0:
        return "rain", -1
    for index in range(len(rain)):
        if index >= 12 or wrong_number(rain[index], 1000000):
            return "rain", index
    if len(barrels) == 0:
        return "barrels", -1
    for index in range(len(barrels)):
        before = [barrel[0] for barrel in barrels[:index]]
        if index >= 5 or barrels[index][0] in before or wrong_barrel(barrels[index], len(rain)):
            return "barrels", index
    return None


def spoil_rain(rng, rain):
    rain = list(rain)
    way = rng.randrange(4)
    if way == 0:
        return ()
    if way == 1:
        return tuple(rain + [1] * (13 - len(rain) + rng.randrange(3)))
    if way == 2 and rng.randrange(2):
        rain = rain + [1] * (14 - len(rain))
    rain[rng.randrange(len(rain))] = rng.choice((-1, 10 ** 6 + 1, -10 ** 6, 10 ** 18, True))
    return tuple(rain)


def spoil_one(rng, barrel):
    name, capacity, roof, draws = barrel
    way = rng.randrange(5)
    if way == 0:
        name = rng.choice(("", "abcdefghi", "Top", "a1", "a b", "a-b", "\u00e4", "to\u0301p", "`", "{", " ", "a\n"))
    elif way == 1:
        capacity = rng.choice((-1, 10 ** 9 + 1, 10 ** 20, False))
    elif way == 2:
        roof = rng.choice((-1, 101, 10 ** 9, True))
    elif way == 3:
        draws = rng.choice((draws + (0,), draws[1:], ()))
    elif draws:
        draws = list(draws)
        draws[rng.randrange(len(draws))] = rng.choice((-1, 10 ** 9 + 1, True))
    return (name, capacity, roof, tuple(draws))


def spoil_barrels(rng, barrels):
    barrels = list(barrels)
    way = rng.randrange(5)
    if way == 0:
        return []
    if way == 1:
        more = [("more" + letter,) + barrels[0][1:] for letter in "abcdef"]
        return barrels + more[:6 - len(barrels) + rng.randrange(2)]
    if way == 2:
        barrels.insert(rng.randint(1, len(barrels)), (barrels[0][0],) + barrels[-1][1:])
        return barrels
    at = rng.randrange(len(barrels))
    barrels[at] = spoil_one(rng, barrels[at])
    return barrels


class RowMaking(unittest.TestCase):
    def fault(self, rain, *barrels):
        with self.assertRaises(InvalidRow) as caught:
            Row(rain, *barrels)
        return caught.exception.part, caught.exception.index

    def test_random_faults(self):
        rng = random.Random(21)
        for _ in range(6000):
            rain = small_rain(rng)
            barrels = small_barrels(rng, rain)
            if rng.randrange(3) == 0:
                barrels = spoil_barrels(rng, barrels)
            if rng.randrange(3) == 0:
                barrels = spoil_barrels(rng, barrels) if barrels else barrels
            if rng.randrange(4) == 0:
                rain = spoil_rain(rng, rain)
            expected = first_fault(rain, barrels)
            if expected is None:
                row = Row(rain, *barrels)
                self.assertEqual((row.rain, row.barrels), (rain, tuple(barrels)))
            else:
                self.assertEqual(self.fault(rain, *barrels), expected)

    def test_properties_are_tuples(self):
        row = example()
        self.assertEqual(row.rain, (3, 0))
        self.assertEqual(row.barrels, (("top", 4, 1, (0, 2)), ("end", 2, 1, (1, 1))))
        self.assertEqual(row.names, ("top", "end"))
        for value in (row.rain, row.barrels, row.names):
            self.assertIs(type(value), tuple)

    def test_rain_faults(self):
        barrel = ("a", 1, 1, (0,))
        self.assertEqual(self.fault((), barrel), ("rain", -1))
        self.assertEqual(self.fault((-1,), barrel), ("rain", 0))
        self.assertEqual(self.fault((10 ** 6 + 1,), barrel), ("rain", 0))
        self.assertEqual(self.fault((0, 5, -1, -1), barrel), ("rain", 2))
        self.assertEqual(self.fault((1,) * 13, ("a", 1, 1, (0,) * 13)), ("rain", 12))
        self.assertEqual(self.fault((1,) * 20, ("a", 1, 1, (0,) * 20)), ("rain", 12))
        self.assertEqual(self.fault((1,) * 12 + (-1,), ("a", 1, 1, (0,) * 13)), ("rain", 12))
        self.assertEqual(self.fault((1,) * 11 + (-1, 1), ("a", 1, 1, (0,) * 13)), ("rain", 11))
        self.assertEqual(self.fault((True,), barrel), ("rain", 0))

    def test_rain_comes_before_barrels(self):
        self.assertEqual(self.fault(()), ("rain", -1))
        self.assertEqual(self.fault((1, -1)), ("rain", 1))
        self.assertEqual(self.fault((-1,), ("A", -1, -1, ())), ("rain", 0))
        self.assertEqual(self.fault((1,) * 13, ("", 1, 1, ())), ("rain", 12))

    def test_barrel_faults(self):
        good = ("a", 1, 1, (0, 0))
        rain = (1, 2)
        self.assertEqual(self.fault(rain), ("barrels", -1))
        wrong = [
            ("", 1, 1, (0, 0)), ("abcdefghi", 1, 1, (0, 0)), ("B", 1, 1, (0, 0)), ("b2", 1, 1, (0, 0)),
            ("b ", 1, 1, (0, 0)), ("\u00df", 1, 1, (0, 0)), ("b_", 1, 1, (0, 0)), ("b", -1, 1, (0, 0)),
            ("b", 10 ** 9 + 1, 1, (0, 0)), ("b", 1, -1, (0, 0)), ("b", 1, 101, (0, 0)), ("b", 1, 1, (0,)),
            ("b", 1, 1, (0, 0, 0)), ("b", 1, 1, ()), ("b", 1, 1, (-1, 0)), ("b", 1, 1, (0, -1)),
            ("b", 1, 1, (10 ** 9 + 1, 0)), ("b", 1, 1, (0, 10 ** 9 + 1)), ("b", True, 1, (0, 0)),
            ("b", 1, False, (0, 0)), ("b", 1, 1, (True, 0)), ("a", 1, 1, (0, 0)), ("a", 5, 2, (1, 0)),
        ]
        for barrel in wrong:
            self.assertEqual(self.fault(rain, good, barrel), ("barrels", 1), barrel)
            self.assertEqual(self.fault(rain, good, ("c", 1, 1, (0, 0)), barrel, barrel), ("barrels", 2), barrel)
            if barrel[0] != "a":
                self.assertEqual(self.fault(rain, barrel, good), ("barrels", 0), barrel)

    def test_too_many_barrels(self):
        six = [(name, 1, 1, (0,)) for name in "abcdef"]
        Row((1,), *six[:5])
        self.assertEqual(self.fault((1,), *six), ("barrels", 5))
        self.assertEqual(self.fault((1,), *six, ("g", 1, 1, (0,))), ("barrels", 5))
        six[3] = ("a", 1, 1, (0,))
        self.assertEqual(self.fault((1,), *six), ("barrels", 3))
        six[3] = ("d", 1, 1, (0,))
        six[5] = ("f", -1, 1, (0,))
        self.assertEqual(self.fault((1,), *six), ("barrels", 5))

    def test_limits_are_allowed(self):
        barrels = [("a", 0, 0, (0,) * 12), ("z", 10 ** 9, 100, (10 ** 9,) * 12), ("abcdefgh", 1, 1, (1,) * 12),
                   ("stuvwxyz", 1, 1, (1,) * 12), ("e", 1, 1, (1,) * 12)]
        rain = (0, 10 ** 6) * 6
        row = Row(rain, *barrels)
        self.assertEqual((row.rain, row.barrels), (rain, tuple(barrels)))
        self.assertEqual(Row((0,), ("q", 0, 0, (0,))).names, ("q",))

    def test_class_values(self):
        self.assertEqual((Row.MAX_BARRELS, Row.MAX_TICKS), (5, 12))
        self.assertEqual((example().MAX_BARRELS, example().MAX_TICKS), (5, 12))

    def test_equal(self):
        row = Row.equal((1, 2, 3), 7, "b", "a", "c")
        self.assertEqual(row.rain, (1, 2, 3))
        self.assertEqual(row.barrels, tuple((name, 7, 1, (0, 0, 0)) for name in "bac"))
        self.assertIsInstance(row, Row)
        for arguments, expected in [
                (((), 1, "a"), ("rain", -1)), (((1,) * 13, 1, "a"), ("rain", 12)), (((1,), -1, "a"), ("barrels", 0)),
                (((1,), 10 ** 9 + 1, "a"), ("barrels", 0)), (((1,), 1), ("barrels", -1)),
                (((1,), 1, "a", "b", "a"), ("barrels", 2)), (((1,), 1, "a", "B"), ("barrels", 1)),
                (((1,), 1, *"abcdef"), ("barrels", 5)), (((1, -1), -1), ("rain", 1))]:
            with self.assertRaises(InvalidRow) as caught:
                Row.equal(*arguments)
            self.assertEqual((caught.exception.part, caught.exception.index), expected)


class RowSigns(unittest.TestCase):
    def test_signs_agree_with_lists(self):
        rng = random.Random(22)
        for _ in range(2000):
            rain = small_rain(rng)
            barrels = small_barrels(rng, rain)
            row = Row(rain, *barrels)
            names = [barrel[0] for barrel in barrels]
            self.assertEqual(len(row), len(barrels))
            self.assertEqual(list(row.names), names)
            for name in NAMES:
                self.assertIs(name in row, name in names)
                if name in names:
                    at = names.index(name)
                    self.assertEqual(row[name], barrels[at][1:])
                    self.check_minus(row, barrels, at)
                else:
                    self.check_unknown(row, name)
            self.check_plus(rng, row)

    def check_minus(self, row, barrels, at):
        name = barrels[at][0]
        left = barrels[:at] + barrels[at + 1:]
        if left:
            less = row - name
            self.assertEqual((less.rain, less.barrels), (row.rain, tuple(left)))
        else:
            with self.assertRaises(InvalidRow) as caught:
                row - name
            self.assertEqual((caught.exception.part, caught.exception.index), ("barrels", -1))
        self.assertEqual(row.barrels, tuple(barrels))

    def check_unknown(self, row, name):
        for call in (lambda: row[name], lambda: row - name, lambda: row.with_capacity(name, -1),
                     lambda: row(name, 0), lambda: row(name, -1)):
            with self.assertRaises(UnknownBarrel) as caught:
                call()
            self.assertEqual(caught.exception.name, name)

    def check_plus(self, rng, row):
        other = Row(row.rain, *small_barrels(rng, row.rain, 1, 3))
        both = row.barrels + other.barrels
        fault = first_fault(row.rain, both)
        if fault is None:
            more = row + other
            self.assertEqual((more.rain, more.barrels), (row.rain, both))
        else:
            with self.assertRaises(InvalidRow) as caught:
                row + other
            self.assertEqual((caught.exception.part, caught.exception.index), fault)
        self.assertEqual(row.barrels + other.barrels, both)

    def test_plus_with_other_rain(self):
        row = example()
        for rain in ((3, 1), (3,), (0, 3), (3, 0, 3, 0)):
            other = Row.equal(rain, 1, "x")
            with self.assertRaises(OtherRain):
                row + other
        # Other rain is told before a name that stands twice, and before too many barrels.
        with self.assertRaises(OtherRain):
            row + Row.equal((1, 0), 1, "top")
        with self.assertRaises(OtherRain):
            row + Row.equal((1, 0), 1, *"abcde")

    def test_plus_tells_the_place_in_both(self):
        row = Row.equal((1,), 1, "a", "b", "c")
        for names, index in ((("d", "a"), 4), (("c",), 3), (("d", "e", "f"), 5), (("d", "e", "a"), 5)):
            with self.assertRaises(InvalidRow) as caught:
                row + Row.equal((1,), 1, *names)
            self.assertEqual((caught.exception.part, caught.exception.index), ("barrels", index))

    def test_equality(self):
        row = example()
        self.assertTrue(row == example())
        self.assertFalse(row != example())
        others = [row - "top", row.with_rain(0, 4), row.with_capacity("top", 5), (row - "top") + (row - "end"),
                  Row((3, 0), ("top", 4, 2, (0, 2)), ("end", 2, 1, (1, 1))),
                  Row((3, 0), ("top", 4, 1, (0, 3)), ("end", 2, 1, (1, 1))),
                  Row((3, 0), ("tip", 4, 1, (0, 2)), ("end", 2, 1, (1, 1)))]
        strange = [None, 0, 2, "top", row.barrels, row.rain, row.names, (row.rain, row.barrels), list(row.barrels),
                   [], (), {}, object(), (3, 0), mock.ANY]
        for other in others + strange:
            self.assertIs(row == other, False, other)
            self.assertIs(row != other, True, other)
        self.assertIs(None == row, False)
        self.assertIs((row.rain, row.barrels) == row, False)

    def test_equality_of_random_rows(self):
        rng = random.Random(23)
        rows = [small_row(rng, 1, 2) for _ in range(60)]
        for one in rows:
            self.assertTrue(one == Row(one.rain, *one.barrels))
            for other in rows:
                same = one.rain == other.rain and one.barrels == other.barrels
                self.assertIs(one == other, same)
                self.assertIs(one != other, not same)

    def test_rows_are_not_iterated(self):
        row = example()
        with self.assertRaises(TypeError):
            iter(row)
        with self.assertRaises(TypeError):
            list(row)
        with self.assertRaises(TypeError):
            tuple(row)
        with self.assertRaises(TypeError):
            for _ in row:
                pass
        with self.assertRaises(TypeError):
            one, two = row
        with self.assertRaises(TypeError):
            max(row)
        with self.assertRaises(TypeError):
            Row(*row)

    def test_names_of_other_kinds_are_not_in_a_row(self):
        row = example()
        for name in ("", "to", "topp", "Top", "top ", 0, None, ("top",), ("top", 4, 1, (0, 2))):
            self.assertIs(name in row, False)

    def test_unknown_barrel_comes_before_invalid_row(self):
        row = Row.equal((1,), 1, "a")
        with self.assertRaises(UnknownBarrel) as caught:
            row - "b"
        self.assertEqual(caught.exception.name, "b")
        with self.assertRaises(InvalidRow) as caught:
            row - "a"
        self.assertEqual((caught.exception.part, caught.exception.index), ("barrels", -1))


class RowChanges(unittest.TestCase):
    def test_with_capacity(self):
        rng = random.Random(24)
        for _ in range(500):
            row = small_row(rng)
            before = row.barrels
            at = rng.randrange(len(row))
            name = row.names[at]
            capacity = rng.choice((0, 1, 10 ** 9, rng.randint(0, 100)))
            barrels = list(before)
            barrels[at] = (name, capacity, before[at][2], before[at][3])
            other = row.with_capacity(name, capacity)
            self.assertIsInstance(other, Row)
            self.assertEqual((other.rain, other.barrels), (row.rain, tuple(barrels)))
            self.assertEqual(row.barrels, before)
            for wrong in (-1, 10 ** 9 + 1, True):
                with self.assertRaises(InvalidRow) as caught:
                    row.with_capacity(name, wrong)
                self.assertEqual((caught.exception.part, caught.exception.index), ("barrels", at))

    def test_with_rain(self):
        rng = random.Random(25)
        for _ in range(500):
            row = small_row(rng)
            before = row.rain
            at = rng.randrange(len(before))
            amount = rng.choice((0, 1, 10 ** 6, rng.randint(0, 100)))
            rain = list(before)
            rain[at] = amount
            other = row.with_rain(at, amount)
            self.assertIsInstance(other, Row)
            self.assertEqual((other.rain, other.barrels), (tuple(rain), row.barrels))
            self.assertEqual(row.rain, before)
            for wrong in (-1, 10 ** 6 + 1, False):
                with self.assertRaises(InvalidRow) as caught:
                    row.with_rain(at, wrong)
                self.assertEqual((caught.exception.part, caught.exception.index), ("rain", at))
            for wrong in (-1, len(before), -len(before), 12, 10 ** 20):
                for amount in (0, -1):
                    with self.assertRaises(InvalidNumber):
                        row.with_rain(wrong, amount)

    def test_a_boolean_is_no_index(self):
        with self.assertRaises(InvalidNumber):
            example().with_rain(True, 1)

    def test_unknown_barrel_comes_before_a_wrong_capacity(self):
        with self.assertRaises(UnknownBarrel) as caught:
            example().with_capacity("mid", -1)
        self.assertEqual(caught.exception.name, "mid")


if __name__ == "__main__":
    unittest.main()
