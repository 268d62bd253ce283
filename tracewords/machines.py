"""Machines that tell the worths of words, and those that tell a house's sums [71], [72]."""
from tracewords.basics import is_list
from tracewords.errors import (InvalidEnds, InvalidMachine, InvalidStart, InvalidTables, InvalidWord, TooMany,
                               UnlikeLetters)
from tracewords.houses import MOST_LETTERS, are_letters_at, check_house, on_the_line
from tracewords.ratios import are_numbers, ratio_row
from tracewords.solved import are_rows_of, is_row_of, led_to, numbers_led
from tracewords.tables import columns_of, idle, long_row

MOST_STATES = 16


class Machine:
    """Start, letters and ends, which give each word a worth."""

    def __init__(self, start, tables, ends):
        if not are_numbers(start) or len(start) > MOST_STATES:
            raise InvalidStart(start)
        if not are_squares(tables, len(start)):
            raise InvalidTables(tables)
        if not is_row_of(ends, len(start)):
            raise InvalidEnds(ends)
        self._start = ratio_row(start)
        self._tables = [[ratio_row(row) for row in table] for table in tables]
        self._ends = ratio_row(ends)

    @property
    def states(self):
        """How many states there are."""
        return len(self._start)

    @property
    def many(self):
        """How many letters there are."""
        return len(self._tables)

    def start(self):
        """The list of the numbers of the start."""
        return list(self._start)

    def tables(self):
        """The list of the letters."""
        return [[list(row) for row in table] for table in self._tables]

    def ends(self):
        """The list of the numbers of the ends."""
        return list(self._ends)

    def worth(self, word):
        """The worth of the word."""
        if not are_letters_at(word, self.many):
            raise InvalidWord(word)
        row = self._start
        for at in word:
            row = numbers_led(row, columns_of(self._tables[at]))
        return led_to(row, self._ends)

    def __eq__(self, other):
        if not isinstance(other, Machine):
            return False
        return self._start == other._start and self._tables == other._tables and self._ends == other._ends

    def __repr__(self):
        return f"Machine({self._start!r}, {self._tables!r}, {self._ends!r})"


def house_machine(house):
    """The Machine that tells the sum of each word of the house."""
    check_house(house)
    line = long_row(idle(house.width))
    return Machine(line, [each_row_led(letter) for letter in house.letters()], line)


def sum_machine(machine, other):
    """Both machines side by side."""
    check_machine(machine)
    check_machine(other)
    if machine.many != other.many:
        raise UnlikeLetters()
    if machine.states + other.states > MOST_STATES:
        raise TooMany("states", MOST_STATES)
    tables = [on_the_line(mine, its) for mine, its in zip(machine.tables(), other.tables())]
    return Machine(machine.start() + other.start(), tables, machine.ends() + other.ends())


def check_machine(machine):
    """Raise InvalidMachine unless it is a Machine."""
    if not isinstance(machine, Machine):
        raise InvalidMachine(machine)


def are_squares(value, size):
    """Whether any value is a list of 1 to 3 lists, each of as many rows of NUMBERS as the size, as long as it."""
    if not is_list(value) or not 1 <= len(value) <= MOST_LETTERS:
        return False
    return all([are_rows_of(table, size, size) and len(table) == size for table in value])


def each_row_led(letter):
    """What leads the long row of a table to that of the table times the letter."""
    found = letter
    # Each row of the table is led by the letter, apart from the others.
    for _ in letter[1:]:
        found = on_the_line(found, letter)
    return found
