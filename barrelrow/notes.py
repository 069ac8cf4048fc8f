"""Rows as texts, charts of levels, and daybooks of what happened to a row."""

from barrelrow.errors import DaybookError, InvalidText
from barrelrow.rows import MAX_FALL, Row, check_number, is_name, place_of
from barrelrow.search import first_number
from barrelrow.water import for_ticks, pass_ticks

MAX_DIGITS = 10
FALL_DIGITS = 7
CHART_SIGNS = 20
MAX_LINES = 300
UNKNOWN = "?"


def is_numeral(word, digits):
    """Tell whether a word is a number of at most so many digits without leading zeros."""
    if not 1 <= len(word) <= digits or not all(["0" <= sign <= "9" for sign in word]):
        return False
    return word == "0" or word[0] != "0"


def are_numerals(words):
    """Tell whether all words are numbers of the texts of rows."""
    return all([is_numeral(word, MAX_DIGITS) for word in words])


def as_numbers(words):
    """Return the numbers that words stand for, as a tuple."""
    return tuple([int(word) for word in words])


def as_line(word, numbers):
    """Return a line of a word and numbers."""
    return " ".join([word] + [str(number) for number in numbers])


def format_row(row):
    """Return the text of a row."""
    lines = [as_line("rain", row.rain)]
    for name, capacity, roof, draws in row.barrels:
        lines.append(as_line(name, (capacity, roof) + draws))
    return "\n".join(lines)


def parse_row(text):
    """Return the row of a text."""
    lines = [line.split(" ") for line in text.split("\n")]
    check_form(lines)
    rain = as_numbers(lines[0][1:])
    barrels = [as_barrel(words) for words in lines[1:]]
    return Row(rain, *barrels)


def check_form(lines):
    """Raise InvalidText with the first line whose words are not those of a row."""
    if not is_rain_line(lines[0]):
        raise InvalidText(line=0)
    size = len(lines[0]) + 2
    for line in range(1, len(lines)):
        if len(lines[line]) != size or not is_barrel_line(lines[line]):
            raise InvalidText(line=line)
    if len(lines) == 1:
        raise InvalidText(line=1)


def is_rain_line(words):
    """Tell whether words are those of the rain of a row."""
    return words[0] == "rain" and len(words) > 1 and are_numerals(words[1:])


def is_barrel_line(words):
    """Tell whether words are those of a barrel, with any number of wishes."""
    return is_name(words[0]) and are_numerals(words[1:])


def as_barrel(words):
    """Return the barrel of a line."""
    name, capacity, roof, *wishes = words
    return name, int(capacity), int(roof), as_numbers(wishes)


def chart(row, tick):
    """Return a chart of the levels after a tick."""
    lines = []
    for name, capacity, _, _ in row.barrels:
        level = row(name, tick)
        lines.append(f"{name:<8}[{bar_of(level, capacity)}]{level:>14,}")
    return "\n".join(lines)


def bar_of(level, capacity):
    """Return the signs for the level of a barrel with this capacity."""
    full = CHART_SIGNS * level // capacity if capacity > 0 else 0
    return "#" * full + "." * (CHART_SIGNS - full)


class Daybook:
    """What happened to a row from tick 0 on; one amount of rain may be unknown."""

    def __init__(self, row, text):
        self._row = row
        self._falls = []
        # The tick whose rain is unknown, and the levels told behind it: ticks before, place and level.
        self._gap = None
        self._told = []
        lines = text.split("\n") if text != "" else []
        for line, content in enumerate(lines):
            if line == MAX_LINES or not self._read(content.split(" ")):
                raise DaybookError(line=line)
        self._size = len(lines)

    @property
    def line_count(self):
        """The number of all lines."""
        return self._size

    @property
    def tick_count(self):
        """The number of the lines with rain."""
        return len(self._falls)

    def unknown_range(self):
        """Return the least and the greatest amount that can stand for the unknown one, or None."""
        if self._gap is None:
            return None
        # More rain never leads to lower levels.
        least = first_number(0, MAX_FALL + 1, lambda amount: min(self._excess(amount), default=0) >= 0)
        behind = first_number(0, MAX_FALL + 1, lambda amount: max(self._excess(amount), default=0) > 0)
        return (least, behind - 1) if least < behind else None

    def levels_after(self, amount):
        """Return a dict from all names to the levels after all ticks, if the unknown rain is this amount."""
        check_number(amount, 0, MAX_FALL)
        passages = self._passages(amount)
        ticks = len(self._falls)
        return {name: level_after(passage, ticks) for name, passage in zip(self._row.names, passages)}

    def _read(self, words):
        """Add a line to the daybook; return whether it can be there."""
        if len(words) == 2 and words[0] == "rain":
            return self._read_unknown() if words[1] == UNKNOWN else self._read_rain(words[1])
        return len(words) == 3 and words[0] == "level" and self._read_level(words[1], words[2])

    def _read_unknown(self):
        """Add a tick with an unknown amount of rain; return whether it is the first one."""
        if self._gap is not None:
            return False
        self._gap = len(self._falls)
        self._falls.append(0)
        return True

    def _read_rain(self, word):
        """Add a tick with rain; return whether a word tells how much."""
        if not is_numeral(word, FALL_DIGITS) or int(word) > MAX_FALL:
            return False
        self._falls.append(int(word))
        return True

    def _read_level(self, name, word):
        """Add a level; return whether it is well told, and right as far as is known."""
        if name not in self._row or not is_numeral(word, MAX_DIGITS):
            return False
        ticks = len(self._falls)
        place = place_of(self._row, name)
        if self._gap is None:
            return level_after(self._passages(0)[place], ticks) == int(word)
        self._told.append((ticks, place, int(word)))
        return True

    def _passages(self, amount):
        """Return what happens at each barrel if the unknown rain is this amount."""
        falls = list(self._falls)
        if self._gap is not None:
            falls[self._gap] = amount
        return pass_ticks(falls, for_ticks(self._row.barrels, len(falls)), [0] * len(self._row))

    def _excess(self, amount):
        """Return by how much each level, with this amount, is above what is told."""
        passages = self._passages(amount)
        return [level_after(passages[place], ticks) - level for ticks, place, level in self._told]


def level_after(passage, ticks):
    """Return the level of a barrel after so many of the ticks that pass."""
    return passage.after[ticks - 1] if ticks > 0 else passage.start
