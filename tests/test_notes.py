"""Point 15: texts of rows, and charts."""

import random
import re
import unittest

from barrelrow.errors import InvalidNumber, InvalidRow, InvalidText
from barrelrow.notes import chart, format_row, parse_row
from barrelrow.rows import Row
from tests.samples import FAR, example, random_slow_row, slow_rows, small_row

NUMBER = "(0|[1-9][0-9]{0,9})"
ODD_WORDS = (
    "", "?", "-1", "+1", "01", "00", "007", "1.5", "1_0", "0x1", "1e3", "9" * 10, "9" * 11, "1" + "0" * 10, "0" * 11,
    "rain", "Rain", "a", "abcdefgh", "abcdefghi", "A", "a1", "1a", "\u00e9", "\u0661", "\u00b2", "\uff11", "\u2460",
    "a\u0301", "1\t", "\t", "1\r", "\x0b", "\u00a0", "\u2028", "1\u2003", "1000000", "1000001", "1000000000", "1000000001", "101",
)
ODD_SIGNS = " \n\t\r0129az?-+_AZ`{/:\u00e9\u0661\u00b2\uff11\u00a0\u2028\x0b\x00"


def first_wrong_line(text):
    """Return the number of the first line that does not have its form, by regular expressions, or None."""
    lines = text.split("\n")
    if not re.fullmatch(f"rain( {NUMBER})+", lines[0]):
        return 0
    ticks = lines[0].count(" ")
    for at in range(1, len(lines)):
        if not re.fullmatch("[a-z]{1,8}" + f" {NUMBER}" * (2 + ticks), lines[at]):
            return at
    return 1 if len(lines) == 1 else None


def row_of(text):
    """Return the rain and the barrels of a text that has the right form."""
    first, *others = [line.split(" ") for line in text.split("\n")]
    barrels = []
    for words in others:
        numbers = [int(word) for word in words[1:]]
        barrels.append((words[0], numbers[0], numbers[1], tuple(numbers[2:])))
    return tuple(int(word) for word in first[1:]), tuple(barrels)


def spoil_words(rng, text):
    """Return the text with a word replaced, left out or put in."""
    lines = [line.split(" ") for line in text.split("\n")]
    words = rng.choice(lines)
    at = rng.randrange(len(words))
    way = rng.randrange(4)
    if way == 0:
        del words[at]
    elif way == 1:
        words.insert(at, rng.choice(ODD_WORDS))
    else:
        words[at] = rng.choice(ODD_WORDS)
    return "\n".join(" ".join(words) for words in lines)


def spoil_signs(rng, text):
    """Return the text with a sign replaced, left out or put in."""
    at = rng.randint(0, len(text))
    return text[:at] + rng.choice(("", *ODD_SIGNS)) + text[at + rng.randrange(2):]


def spoil_lines(rng, text):
    """Return the text with a line left out, twice, elsewhere or with spaces."""
    lines = text.split("\n")
    at = rng.randrange(len(lines))
    way = rng.randrange(6)
    if way == 0:
        del lines[at]
    elif way == 1:
        lines.insert(rng.randint(0, len(lines)), lines[at])
    elif way == 2:
        rng.shuffle(lines)
    elif way == 3:
        lines[at] = rng.choice((" ", "")) + lines[at] + rng.choice((" ", ""))
    elif way == 4:
        lines[at] = lines[at].replace(" ", "  ", 1)
    else:
        lines.insert(rng.randint(0, len(lines)), "")
    return "\n".join(lines)


class Texts(unittest.TestCase):
    def line(self, text):
        with self.assertRaises(InvalidText) as caught:
            parse_row(text)
        return caught.exception.line

    def check(self, text):
        """The text is read as it should be; return what is wrong in it, if anything is."""
        line = first_wrong_line(text)
        if line is not None:
            self.assertEqual(self.line(text), line, repr(text))
            return "text"
        rain, barrels = row_of(text)
        try:
            row = Row(rain, *barrels)
        except InvalidRow as error:
            with self.assertRaises(InvalidRow) as caught:
                parse_row(text)
            self.assertEqual(vars(caught.exception), vars(error))
            return "row"
        self.assertEqual(parse_row(text), row)
        self.assertEqual(format_row(parse_row(text)), text)
        return "none"

    def test_back_and_forth(self):
        rng = random.Random(151)
        for row in slow_rows() + [small_row(rng) for _ in range(200)] + [random_slow_row(rng) for _ in range(50)]:
            text = format_row(row)
            self.assertIsNone(first_wrong_line(text))
            self.assertEqual(row_of(text), (row.rain, row.barrels))
            self.assertEqual(parse_row(text), row)
            self.assertIs(type(parse_row(text).rain), tuple)
            self.assertIs(type(parse_row(text).barrels[0][3]), tuple)

    def test_a_text(self):
        row = Row((3, 0, 10 ** 6), ("rain", 10 ** 9, 100, (0, 10 ** 9, 7)), ("level", 0, 0, (0, 0, 0)))
        text = "rain 3 0 1000000\nrain 1000000000 100 0 1000000000 7\nlevel 0 0 0 0 0"
        self.assertEqual(format_row(row=row), text)
        self.assertEqual(parse_row(text=text), row)

    def test_spoiled_texts(self):
        rng = random.Random(152)
        seen = {"text": 0, "row": 0, "none": 0}
        for _ in range(6000):
            text = format_row(small_row(rng))
            for _ in range(rng.choice((1, 1, 1, 2, 3))):
                text = rng.choice((spoil_words, spoil_words, spoil_signs, spoil_lines))(rng, text)
            seen[self.check(text)] += 1
        self.assertGreater(min(seen.values()), 100)

    def test_odd_words_at_each_place(self):
        text = "rain 3 0\ntop 4 1 0 2\nend 2 1 1 1"
        lines = [line.split(" ") for line in text.split("\n")]
        for line, words in enumerate(lines):
            for at in range(len(words)):
                for word in ODD_WORDS:
                    spoiled = [list(words) for words in lines]
                    spoiled[line][at] = word
                    self.check("\n".join(" ".join(words) for words in spoiled))

    def test_one_line(self):
        self.assertEqual([self.line("rain 3"), self.line("rain 0 0 0"), self.line("rain 9999999999")], [1, 1, 1])
        for text in ("", " ", "rain", "rain ", "rain x", "rain 3 ", " rain 3", "a 5 1 0", "Rain 3", "raina 3", "3 3"):
            self.assertEqual(self.line(text), 0)

    def test_lines(self):
        for text, line in (("\n", 0), ("rain 3\n", 1), ("rain 3\na 5 1 0\n", 2), ("rain 3\n\na 5 1 0", 1),
                           ("\nrain 3\na 5 1 0", 0), ("rain\na 5 1", 0), ("rain 3\na 5 1", 1), ("rain 3\na 5 1 0 0", 1),
                           ("rain 3 4\na 5 1 0", 1), ("rain 3\na 5 1 0\nb 5 1", 2), ("rain 3\na  5 1 0", 1),
                           ("rain 3\r\na 5 1 0", 0), ("rain\t3\na 5 1 0", 0), ("rain 3\n5 1 0", 1),
                           ("rain 3\nabcdefghi 5 1 0", 1), ("rain 3\na 5 01 0", 1), ("rain 12345678901\na 5 1 0", 0),
                           ("rain 3\na 5 1 0\nb 5 1 x\nc", 2), ("rain 3 \na 5 1 0 ", 0)):
            self.assertEqual(self.line(text), line, repr(text))

    def test_the_row_is_checked_after_the_text(self):
        for text, part, index in (("rain 1000001\na 5 1 0", "rain", 0), ("rain 3 9999999999\na 5 1 0 0", "rain", 1),
                                  ("rain" + " 1" * 13 + "\na" + " 1" * 15, "rain", 12),
                                  ("rain 3\na 1000000001 1 0", "barrels", 0), ("rain 3\na 5 101 0", "barrels", 0),
                                  ("rain 3\na 5 1 0\nb 5 1 1000000001", "barrels", 1),
                                  ("rain 3\na 5 1 0\nb 5 1 0\na 5 1 0", "barrels", 2),
                                  ("rain 3" + "".join(f"\n{name} 1 1 1" for name in "abcdef"), "barrels", 5)):
            with self.assertRaises(InvalidRow) as caught:
                parse_row(text)
            self.assertEqual((caught.exception.part, caught.exception.index), (part, index))
            lines = text.count("\n") + 1
            self.assertEqual(self.line(text + "\nz"), lines)


def plain_chart(row, tick):
    """Return the chart, put together sign by sign."""
    lines = []
    for name, capacity, _, _ in row.barrels:
        level = row(name, tick)
        line = name
        while len(line) < 8:
            line += " "
        line += "["
        for sign in range(1, 21):
            # So many twentieths are there if the level is at least as much of the capacity.
            line += "#" if capacity > 0 and 20 * level >= sign * capacity else "."
        digits = str(level)
        groups = []
        while digits:
            groups.insert(0, digits[-3:])
            digits = digits[:-3]
        told = ",".join(groups)
        lines.append(line + "]" + " " * (14 - len(told)) + told)
    return "\n".join(lines)


class Charts(unittest.TestCase):
    def test_near_and_far(self):
        rng = random.Random(153)
        for row in slow_rows() + [small_row(rng) for _ in range(150)] + [random_slow_row(rng) for _ in range(60)]:
            ticks = [0, 1, 2, rng.randint(0, 60), 10 ** rng.randint(3, 17), FAR - 1, FAR]
            for tick in ticks:
                found = chart(row, tick)
                self.assertEqual(found, plain_chart(row, tick))
                self.assertEqual([len(line) for line in found.split("\n")], [44] * len(row))

    def test_full_and_empty(self):
        row = Row((10 ** 6,), ("abcdefgh", 0, 100, (0,)), ("none", 999, 0, (10 ** 9,)), ("full", 1000, 1, (0,)),
                  ("big", 10 ** 9, 100, (0,)))
        self.assertEqual(chart(row=row, tick=FAR), (
            "abcdefgh[....................]             0\n"
            "none    [....................]             0\n"
            "full    [####################]         1,000\n"
            "big     [####################] 1,000,000,000"))

    def test_rounded_down(self):
        for level, signs in ((0, 0), (4, 0), (5, 1), (9, 1), (10, 2), (94, 18), (95, 19), (99, 19), (100, 20)):
            row = Row((level,), ("a", 100, 1, (0,)))
            self.assertEqual(chart(row, 0), f"a       [{'#' * signs}{'.' * (20 - signs)}]{level:14d}")

    def test_levels_of_all_lengths(self):
        for digits in range(1, 10):
            number = int("123456789"[:digits])
            row = Row((number % 10, 1), ("a", number, 100, (0, 0)))
            told = ["1", "12", "123", "1,234", "12,345", "123,456", "1,234,567", "12,345,678", "123,456,789"]
            self.assertEqual(chart(row, FAR)[-14:], told[digits - 1].rjust(14))

    def test_ticks_out_of_range(self):
        for tick in (-1, FAR + 1, -FAR, True, False):
            with self.assertRaises(InvalidNumber):
                chart(example(), tick)


if __name__ == "__main__":
    unittest.main()
