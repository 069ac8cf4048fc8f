"""Point 16: daybooks."""

import random
import re
import unittest

from barrelrow.errors import DaybookError, InvalidNumber
from barrelrow.notes import Daybook
from barrelrow.rows import Row
from tests import simulation
from tests.samples import FAR, example, random_slow_row, small_row

MOST = 10 ** 6
RAIN = re.compile("rain (0|[1-9][0-9]{0,6})")
LEVEL = re.compile("level ([a-z]+) (0|[1-9][0-9]{0,9})")
ODD_LINES = (
    "", " ", "rain", "rain ", "rain  3", " rain 3", "rain 3 ", "rain 03", "rain 00", "rain -1", "rain +1",
    "rain 1000001", "rain 9999999", "rain 10000000", "rain 0000001", "rain x", "rain ??", "rain ? ", "? rain",
    "Rain 3", "rain 3 3", "rain\t3", "rain \u0661", "rain \u00b2", "rain 3\r", "rain 3?", "level", "level top",
    "level 4", "level top 4 4", "level  top 4", "level top  4", "level top 4 ", " level top 4", "level top -1",
    "level top 04", "level top 00", "level top ?", "level ? 4", "level top 12345678901", "level top x",
    "level top \u0661", "level mid 4", "level Top 4", "Level top 4", "level rain 4", "top 4", "rain top 4",
    "level\ttop 4", "?", "3", "snow 3", "level  0", "rain top", "level end ", "rain 1_0", "rain 1.0",
)


def levels_with(row, falls, amount):
    """Return the levels before all and after each tick, with this amount for the unknown one."""
    falls = [amount if fall is None else fall for fall in falls]
    return [simulation.empty(row.barrels)] + simulation.play(falls, row.barrels, len(row.rain))[0]


def read_plainly(row, text):
    """Return the first wrong line or None, the rain of the ticks, and all levels that are told."""
    falls = []
    told = []
    for at, line in enumerate(text.split("\n") if text else []):
        rain = RAIN.fullmatch(line)
        level = LEVEL.fullmatch(line)
        if at >= 300:
            return at, falls, told
        if rain and int(rain[1]) <= MOST:
            falls.append(int(rain[1]))
        elif line == "rain ?" and None not in falls:
            falls.append(None)
        elif level and level[1] in row.names:
            told.append((len(falls), level[1], int(level[2])))
            if None not in falls and levels_with(row, falls, 0)[-1][level[1]] != int(level[2]):
                return at, falls, told
        else:
            return at, falls, told
    return None, falls, told


def random_lines(rng, row, amount, unknown, many):
    """Return lines that tell of a row, and the rain; perhaps the rain of one tick is unknown."""
    falls = []
    lines = []
    for _ in range(many):
        if rng.randrange(2) == 0:
            fall = rng.choice((0, 0, 1, 2, 3, 5, rng.randint(0, 12), rng.randint(0, 12)))
            if unknown and None not in falls and rng.randrange(3) == 0:
                fall = None
            falls.append(fall)
            lines.append("rain ?" if fall is None else f"rain {fall}")
        else:
            name = rng.choice(row.names)
            lines.append(f"level {name} {levels_with(row, falls, amount)[-1][name]}")
    return lines


class Reading(unittest.TestCase):
    def line(self, row, text):
        with self.assertRaises(DaybookError) as caught:
            Daybook(row, text)
        return caught.exception.line

    def check(self, row, text):
        """The text is read as it should be; return whether it is a daybook."""
        line, falls, _ = read_plainly(row, text)
        if line is not None:
            self.assertEqual(self.line(row, text), line, repr(text))
            return False
        daybook = Daybook(row, text)
        self.assertEqual(daybook.line_count, text.count("\n") + 1 if text else 0)
        self.assertEqual(daybook.tick_count, len(falls))
        for amount in (0, 7, MOST):
            found = daybook.levels_after(amount)
            self.assertEqual(found, levels_with(row, falls, amount)[-1])
            self.assertEqual(list(found), list(row.names))
        return True

    def spoil(self, rng, lines):
        at = rng.randrange(len(lines))
        way = rng.randrange(7)
        if way < 2:
            lines[at] = rng.choice(ODD_LINES)
        elif way == 2:
            lines.insert(at, rng.choice(ODD_LINES))
        elif way == 3:
            lines.insert(at, "rain ?")
        elif way == 4:
            del lines[at]
        elif way == 5:
            lines[at] = lines[at][:-1] + rng.choice("0123456789?x ")
        else:
            rng.shuffle(lines)

    def test_random_daybooks(self):
        rng = random.Random(161)
        for _ in range(500):
            row = small_row(rng)
            amount = rng.choice((0, 1, 5, rng.randint(0, 30), MOST))
            lines = random_lines(rng, row, amount, rng.randrange(2), rng.randint(0, 20))
            self.assertTrue(self.check(row, "\n".join(lines)))

    def test_spoiled_daybooks(self):
        rng = random.Random(162)
        seen = {True: 0, False: 0}
        for _ in range(3000):
            row = rng.choice((example(), small_row(rng)))
            lines = random_lines(rng, row, rng.randint(0, 9), rng.randrange(2), rng.randint(1, 12))
            for _ in range(rng.randint(1, 2)):
                if lines:
                    self.spoil(rng, lines)
            seen[self.check(row, "\n".join(lines))] += 1
        self.assertGreater(min(seen.values()), 500)

    def test_odd_lines_at_each_place(self):
        row = example()
        for lines in (["rain 3", "level top 3", "rain 1000000", "level end 1"],
                      ["rain 3", "rain ?", "level top 3", "rain 0"]):
            for at in range(len(lines) + 1):
                for odd in ODD_LINES:
                    if (at, odd) != (0, ""):
                        self.assertEqual(self.line(row, "\n".join(lines[:at] + [odd] + lines[at:])), at, odd)
        self.assertEqual(self.line(row, "\n"), 0)
        self.assertEqual(self.line(row, "rain 3\n"), 1)

    def test_levels_ahead_of_all(self):
        row = example()
        self.assertEqual(Daybook(row, "level top 0\nlevel end 0\nrain 3\nlevel top 3").tick_count, 1)
        self.assertEqual(self.line(row, "level top 0\nlevel end 1"), 1)
        self.assertEqual(self.line(row, "level top 3\nrain 3"), 0)

    def test_wrong_levels(self):
        row = example()
        self.assertEqual(self.line(row, "rain 3\nlevel top 2\nlevel end 9"), 1)
        self.assertEqual(self.line(row, "rain 3\nlevel top 3\nlevel end 2\nsnow"), 2)
        # Behind an unknown amount, a wrong level is no fault of its line, but other faults are.
        self.assertEqual(Daybook(row, "rain ?\nrain 3\nlevel top 9999999999").line_count, 3)
        self.assertEqual(self.line(row, "rain ?\nlevel top 99\nlevel mid 3"), 2)
        self.assertEqual(self.line(row, "level top 0\nrain ?\nlevel top 1\nrain 3\nrain ?\nrain ?"), 4)
        self.assertEqual(self.line(row, "level top 1\nrain ?"), 0)

    def test_the_empty_text(self):
        daybook = Daybook(example(), "")
        self.assertEqual([daybook.line_count, daybook.tick_count, daybook.unknown_range()], [0, 0, None])
        self.assertEqual(daybook.levels_after(0), {"top": 0, "end": 0})

    def test_three_hundred_lines(self):
        row = example()
        for lines in (["rain 3"] * 300, ["level top 0"] * 300, ["rain ?"] + ["rain 0"] * 299):
            daybook = Daybook(row=row, text="\n".join(lines))
            self.assertEqual(daybook.line_count, 300)
            self.assertEqual(daybook.tick_count, sum(line.startswith("rain") for line in lines))
            for more in (lines[-1:], ["snow"], [""], ["rain ?"], ["level mid 3"] * 9):
                self.assertEqual(self.line(row, "\n".join(lines + more)), 300)
            self.assertEqual(self.line(row, "\n".join(lines[:-1] + ["snow", "rain 3"])), 299)
        self.assertTrue(self.check(row, "\n".join(["rain 3"] * 151 + ["level top 4"] * 149)))

    def test_ends_of_amounts(self):
        row = Row((0,), ("a", 10 ** 9, 100, (0,)))
        text = "rain 1000000\nlevel a 100000000\nrain 0" + "\nrain 1000000" * 9 + "\nlevel a 1000000000"
        daybook = Daybook(row, text)
        self.assertEqual(daybook.levels_after(0), {"a": 10 ** 9})

    def test_the_row_stays_as_it_is(self):
        row = example()
        Daybook(row, "rain 9\nrain ?\nrain 0").levels_after(3)
        self.assertEqual(row, example())


class Unknown(unittest.TestCase):
    def agrees(self, row, falls, told, amount):
        levels = levels_with(row, falls, amount)
        return all(levels[ticks][name] == level for ticks, name, level in told)

    def check(self, row, text):
        """The range is right at its ends and next to them; return it."""
        _, falls, told = read_plainly(row, text)
        found = Daybook(row, text).unknown_range()
        if None not in falls:
            self.assertIsNone(found)
        elif found is not None:
            least, greatest = found
            self.assertIs(type(found), tuple)
            self.assertTrue(0 <= least <= greatest <= MOST)
            for amount in (least - 1, least, (least + greatest) // 2, greatest, greatest + 1):
                if 0 <= amount <= MOST:
                    self.assertIs(self.agrees(row, falls, told, amount), least <= amount <= greatest)
        return found

    def test_random_daybooks(self):
        rng = random.Random(163)
        kinds = {}
        for _ in range(600):
            row = small_row(rng)
            amount = rng.choice((0, 1, 2, 5, rng.randint(0, 30), MOST))
            found = self.check(row, "\n".join(random_lines(rng, row, amount, True, rng.randint(0, 20))))
            if found is not None:
                self.assertTrue(found[0] <= amount <= found[1])
                kinds[found[0] > 0, found[1] < MOST] = True
        self.assertEqual(len(kinds), 4)

    def test_rows_with_much_water(self):
        rng = random.Random(164)
        for _ in range(100):
            row = random_slow_row(rng)
            amount = rng.choice((0, MOST, rng.randint(0, MOST), rng.randint(0, 999)))
            found = self.check(row, "\n".join(random_lines(rng, row, amount, True, 14)))
            if found is not None:
                self.assertTrue(found[0] <= amount <= found[1])

    def test_where_no_amount_agrees(self):
        rng = random.Random(165)
        nowhere = 0
        for _ in range(300):
            row = small_row(rng, 1, 3)
            lines = random_lines(rng, row, rng.randint(0, 9), True, 10)
            if "rain ?" not in lines:
                continue
            lines.append(f"level {rng.choice(row.names)} {rng.choice((0, 1, 2, 3, rng.randint(0, 50)))}")
            text = "\n".join(lines)
            if self.check(row, text) is None:
                nowhere += 1
                _, falls, told = read_plainly(row, text)
                # No barrel takes more than 40, so from 200 on all amounts are alike.
                for amount in list(range(200)) + [MOST]:
                    self.assertFalse(self.agrees(row, falls, told, amount))
        self.assertGreater(nowhere, 50)

    def test_ranges(self):
        row = example()
        for text, expected in (("", None), ("rain 3\nlevel top 3", None), ("rain ?", (0, MOST)),
                               ("rain 5\nrain ?\nrain 0", (0, MOST)), ("rain ?\nlevel top 0", (0, 0)),
                               ("rain ?\nlevel top 3", (3, 3)), ("rain ?\nlevel top 4", (4, MOST)),
                               ("rain ?\nlevel top 5", None), ("rain ?\nlevel top 2\nlevel top 3", None),
                               ("rain ?\nlevel top 4\nlevel end 0", None), ("rain ?\nlevel end 0", (0, 1)),
                               ("rain ?\nlevel end 0\nlevel top 1", (1, 1)), ("level top 0\nrain ?", (0, MOST))):
            self.assertEqual(Daybook(row, text).unknown_range(), expected, text)

    def test_the_greatest_amount(self):
        row = Row((0,), ("a", 10 ** 9, 100, (0,)))
        for amount in (0, 1, MOST - 1, MOST):
            self.assertEqual(Daybook(row, f"rain ?\nlevel a {100 * amount}").unknown_range(), (amount, amount))
        for level in (1, 99, 100 * MOST - 1, 100 * MOST + 1, 100 * MOST + 100, 9999999999):
            self.assertIsNone(Daybook(row, f"rain ?\nlevel a {level}").unknown_range())


class After(unittest.TestCase):
    def test_amounts_need_not_agree(self):
        daybook = Daybook(example(), "rain ?\nlevel top 2\nlevel top 3")
        self.assertIsNone(daybook.unknown_range())
        self.assertEqual(daybook.levels_after(amount=1), {"top": 1, "end": 0})

    def test_amounts_out_of_range(self):
        for text in ("", "rain 3", "rain ?", "rain ?\nlevel top 99", "level top 0"):
            daybook = Daybook(example(), text)
            for amount in (-1, MOST + 1, FAR, -FAR, True, False):
                with self.assertRaises(InvalidNumber):
                    daybook.levels_after(amount)
            ends = daybook.levels_after(0), daybook.levels_after(MOST)
            self.assertEqual(ends[0] == ends[1], "?" not in text)

    def test_answers_do_not_depend_on_the_order(self):
        daybook = Daybook(example(), "rain 3\nrain ?\nlevel top 2\nrain 1")
        first = [daybook.levels_after(amount) for amount in (0, 1, 5)]
        self.assertEqual(daybook.unknown_range(), (1, MOST))
        first[0].clear()
        again = [daybook.levels_after(amount) for amount in (5, 1, 0)]
        self.assertEqual([again[1], again[0]], first[1:])
        self.assertEqual([len(levels) for levels in again], [2, 2, 2])
        self.assertEqual([daybook.line_count, daybook.tick_count, daybook.unknown_range()], [4, 3, (1, MOST)])


if __name__ == "__main__":
    unittest.main()
