"""Houses and their words, and what other houses are made of them [6], [21], [25]."""
from tracewords.basics import is_count, is_list
from tracewords.errors import InvalidHouse, InvalidLetters, InvalidTable, InvalidWord, TooMany, UnlikeLetters
from tracewords.ratios import Ratio
from tracewords.tables import LARGEST, about, are_tables, idle, is_table, sum_on, times, told_table, undone

MOST_LETTERS = 3
LONGEST_WORD = 16


class House:
    """Letters, tables of one size, that are used one behind another."""

    def __init__(self, letters):
        if not are_tables(letters, MOST_LETTERS):
            raise InvalidLetters(letters)
        self._letters = [told_table(letter) for letter in letters]

    @property
    def width(self):
        """The size of the letters."""
        return len(self._letters[0])

    @property
    def many(self):
        """How many letters there are."""
        return len(self._letters)

    def letters(self):
        """The list of the told letters."""
        return [told_table(letter) for letter in self._letters]

    def table(self, word):
        """The table of the word."""
        if not is_word(self, word):
            raise InvalidWord(word)
        found = idle(self.width)
        for at in word:
            found = times(found, self._letters[at])
        return found

    def word_sum(self, word):
        """The sum of the word."""
        return sum_on(self.table(word))

    def __eq__(self, other):
        return isinstance(other, House) and self._letters == other._letters

    def __repr__(self):
        return f"House({self._letters!r})"


def is_word(house, value):
    """Whether any value is a word of the house."""
    check_house(house)
    return are_letters_at(value, house.many)


def about_house(house):
    """The house with each letter turned about."""
    check_house(house)
    return House([about(letter) for letter in house.letters()])


def side(house, other):
    """Both houses side by side."""
    check_alike_letters(house, other)
    if house.width + other.width > LARGEST:
        raise TooMany("size", LARGEST)
    return House([on_the_line(mine, its) for mine, its in zip(house.letters(), other.letters())])


def led_house(house, table):
    """The house led by the table."""
    check_house(house)
    there = table_of_size(house, table)
    back = undone(there)
    return House([times(times(there, letter), back) for letter in house.letters()])


def are_letters_at(value, many):
    """Whether any value is a list of 0 to 16 COUNTS below this number of letters."""
    if not is_list(value) or len(value) > LONGEST_WORD:
        return False
    return all([is_count(at) and at < many for at in value])


def check_house(house):
    """Raise InvalidHouse unless it is a House."""
    if not isinstance(house, House):
        raise InvalidHouse(house)


def check_alike_letters(house, other):
    """Raise InvalidHouse unless both are Houses, then UnlikeLetters unless they have as many letters."""
    check_house(house)
    check_house(other)
    if house.many != other.many:
        raise UnlikeLetters()


def table_of_size(house, table):
    """The told table; raises InvalidTable unless it is a table of the house's size."""
    if not is_table(table) or len(table) != house.width:
        raise InvalidTable(table)
    return told_table(table)


def leads_over(house, other, table):
    """Whether each letter of the house, then the table, is the table, then the other house's letter.

    Both houses have as many letters and are of the table's size.
    """
    return all([times(mine, table) == times(table, its) for mine, its in zip(house.letters(), other.letters())])


def on_the_line(rows, others):
    """Both lists of rows on the line, one behind the other, and 0 elsewhere."""
    upper = [row + [Ratio(0) for _ in others] for row in rows]
    lower = [[Ratio(0) for _ in rows] + row for row in others]
    return upper + lower
