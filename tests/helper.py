"""What the tests share: values of every kind, expected values, and a check of errors."""
import copy
import itertools
import random
import unittest
from fractions import Fraction

from tracewords.houses import House
from tracewords.ratios import Ratio


class Odd:
    """An object of a class that the package does not know."""


def no_numbers():
    """Values of many kinds that are no NUMBER, the sly ones included."""
    return [None, True, False, "", "1", b"1", [], [1], (), (1,), {}, {0: 1}, set(), {1}, frozenset({1}),
            Odd(), Odd, len, Ratio, Fraction(1), range(3), ValueError(1), House([[[1]]])]


def no_integers():
    """Values that are no INTEGER."""
    return no_numbers() + [Ratio(1), Ratio(0), Ratio(1, 2)]


def no_counts():
    """Values that are no COUNT."""
    return no_integers() + [-1, -10 ** 20]


def no_lists():
    """Values that may never stand where a list is wanted."""
    return [None, True, False, 0, 1, -1, "", "ab", b"ab", {}, {0: 1}, set(), {1}, frozenset(), Odd(), Odd, len,
            Ratio(1), Ratio, range(2), iter([]), Fraction(1), House([[[1]]]), House]


def never_valid():
    """Values that are valid in no place of a table, a word, a mixture, a room and the like."""
    return [None, True, False, "", "ab", b"ab", {}, {0: 1}, set(), {1}, frozenset(), Odd(), Odd, len, Fraction(1),
            range(2), iter([]), ValueError(1), House([[[1]]]), House]


def spoiled(value):
    """All values like this one, with something odd in the place of one thing within it, at whatever depth.

    In the place of a number stands a list, too, and in the place of a list a number.
    """
    found = []
    for at, one in enumerate(value):
        if isinstance(one, (list, tuple)):
            others = spoiled(one) + [5, 0, -1, Ratio(1, 2), Ratio(0)]
        else:
            others = [[], (), [1], (1,), [[1]]]
        for other in others + never_valid():
            found.append(type(value)([*value[:at], other, *value[at + 1:]]))
    return found


def told(value):
    """The value with each int in lists and tuples as a Ratio: what the package is to return."""
    if isinstance(value, list):
        return [told(one) for one in value]
    if isinstance(value, tuple):
        return tuple(told(one) for one in value)
    if isinstance(value, Fraction):
        return Ratio(value.numerator, value.denominator)
    return Ratio(value) if isinstance(value, int) else value


def tupled(value):
    """The value with tuples in the place of lists."""
    return tuple(tupled(one) for one in value) if isinstance(value, (list, tuple)) else value


def fractions(value):
    """The value with each number in lists as a Fraction, for reckoning by other means."""
    if isinstance(value, (list, tuple)):
        return [fractions(one) for one in value]
    return Fraction(value.top, value.bottom) if isinstance(value, Ratio) else Fraction(value)


def lists_within(value):
    """All lists inside a value, itself included."""
    found = [value] if isinstance(value, list) else []
    if isinstance(value, (list, tuple)):
        for one in value:
            found = found + lists_within(one)
    return found


def plain_steps(rows):
    """The steps, by dividing and subtracting Fractions, column by column."""
    rows = fractions(rows)
    done = 0
    for place in range(len(rows[0]) if rows else 0):
        found = [at for at in range(done, len(rows)) if rows[at][place] != 0]
        if not found:
            continue
        rows[done], rows[found[0]] = rows[found[0]], rows[done]
        rows[done] = [number / rows[done][place] for number in rows[done]]
        for at in range(len(rows)):
            if at != done:
                by = rows[at][place]
                rows[at] = [mine - by * its for mine, its in zip(rows[at], rows[done])]
        done += 1
    return rows[:done]


def plain_rank(rows):
    """How many of the rows are free."""
    return len(plain_steps(list(rows)))


def plain_kernel(rows, wide):
    """The kernel, in steps, of Fractions: one list for each place that is no head."""
    found = plain_steps(rows)
    heads = [next(at for at, number in enumerate(row) if number != 0) for row in found]
    lists = []
    for free in [place for place in range(wide) if place not in heads]:
        one = [Fraction(int(place == free)) for place in range(wide)]
        for row, at in zip(found, heads):
            one[at] = -row[free]
        lists.append(one)
    return plain_steps(lists)


def some_rows(source, many, wide):
    """Rows with small numbers, many of them 0, so that some rows are made of others."""
    def number():
        top = source.choice([0, 0, 0, 1, 1, -1, 2, -3])
        return top if source.random() < 0.7 else Ratio(top, source.choice([2, 3, 5, -7]))
    return [[number() for _ in range(wide)] for _ in range(many)]


def plain_times(table, other):
    """The product of two tables, of Fractions."""
    return [[sum(row[at] * other[at][place] for at in range(len(other))) for place in range(len(other[0]))]
            for row in table]


def plain_idle(size):
    """The idle table, of Fractions."""
    return [[Fraction(int(at == place)) for place in range(size)] for at in range(size)]


def plain_led(row, table):
    """The row, led by the table, of Fractions."""
    return plain_times([fractions(row)], fractions(table))[0]


def plain_undone(table):
    """The table that undoes this one, of Fractions."""
    size = len(table)
    return [row[size:] for row in plain_steps([list(row) + line for row, line in zip(table, plain_idle(size))])]


def plain_word(letters, word):
    """The table of a word of these letters, of Fractions."""
    found = plain_idle(len(letters[0]))
    for at in word:
        found = plain_times(found, fractions(letters[at]))
    return found


def plain_long(table):
    """The long row of a table."""
    return [number for row in table for number in row]


def plain_sum(table):
    """The sum on a table's line."""
    return sum(table[at][at] for at in range(len(table)))


def words_up_to(many, longest):
    """All words of so many letters, none longer, in the document's sequence."""
    return [list(word) for length in range(longest + 1) for word in itertools.product(range(many), repeat=length)]


def plain_table(row, wide):
    """The table of a long row."""
    return [row[at:at + wide] for at in range(0, len(row), wide)]


def whole_room(size):
    """The rows of the idle table, of INTEGERS."""
    return [[int(at == place) for place in range(size)] for at in range(size)]


def edge_letters():
    """Letters of houses at the edges that the document names, of sizes 1 to 4."""
    slope, climb, double, swap = [[1, 1], [0, 1]], [[1, 0], [1, 1]], [[1, 0], [0, 2]], [[0, 1], [1, 0]]
    cycle = [[0, 1, 0, 0], [0, 0, 1, 0], [0, 0, 0, 1], [1, 0, 0, 0]]
    chain = [[0, 1, 0, 0], [0, 0, 1, 0], [0, 0, 0, 1], [0, 0, 0, 0]]
    return [[[[0]]], [[[5]]], [[[5]], [[0]], [[Ratio(1, 2)]]],
            [slope], [double], [swap], [[[0, 1], [-1, 0]]], [[[0, 1], [0, 0]]], [[[0, 0], [0, 0]]],
            [whole_room(2)], [slope, climb], [slope, double], [slope, slope, climb], [double, double],
            [[[0, 0], [0, 0]], double, [[3, 0], [0, 3]]],
            [[[1, 0, 0], [0, 1, 0], [0, 0, 2]]], [[[1, 2, 3], [0, 1, 4], [0, 0, 2]], [[0, 1, 0], [0, 0, 1], [0, 0, 0]]],
            [[[1, 1, 0], [0, 1, 0], [0, 0, 7]], [[1, 0, 0], [1, 1, 0], [0, 0, Ratio(1, 2)]]],
            [whole_room(3)], [whole_room(4), whole_room(4)], [cycle], [chain], [cycle, chain],
            [[[1, 0, 0, 0], [0, 2, 0, 0], [0, 0, 3, 0], [0, 0, 0, 3]], [[0] * 4] * 4],
            [[[1, 1, 0, 0], [0, 1, 0, 0], [0, 0, 1, 1], [0, 0, 0, 1]],
             [[1, 0, 0, 0], [1, 1, 0, 0], [0, 0, 1, 0], [0, 0, 1, 1]]],
            [[[1, 2, 0, 0], [3, 4, 0, 0], [0, 0, 0, 1], [0, 0, 1, 0]], [[0, 1, 0, 0], [1, 0, 0, 0], [0, 0, 2, 0],
                                                                      [0, 0, 0, 5]]]]


def some_undone(source, size):
    """A table that can be undone."""
    lower = [[source.choice([-1, 0, 1, 2]) if place < at else int(place == at) for place in range(size)]
             for at in range(size)]
    upper = [[source.choice([-1, 0, 1, 3]) if place > at else int(place == at) for place in range(size)]
             for at in range(size)]
    return plain_times(lower, upper)


def bent_letters(letters, table):
    """The letters, led by the table, of Fractions."""
    back = plain_undone(table)
    return [plain_times(plain_times(fractions(table), fractions(letter)), back) for letter in letters]


def cornered(source, upper, lower, many, beside=False):
    """Letters that keep the room of their last places: noughts below on the left, above on the right, too, if beside.

    They are led by a table; so is the room that is returned with them.
    """
    size = upper + lower
    letters = []
    for _ in range(many):
        letter = some_rows(source, size, size)
        for at in range(size):
            for place in range(size):
                if (at >= upper > place) or (beside and at < upper <= place):
                    letter[at][place] = 0
        letters.append(letter)
    table = some_undone(source, size)
    return bent_letters(letters, table), plain_steps(plain_undone(table)[upper:])


def some_cornered(seed, many, beside=False):
    """Tuples of letters and a room that they keep, of sizes 2 to 4."""
    source = random.Random(seed)
    return [cornered(source, upper, lower, letters, beside) for upper, lower in [(1, 1), (1, 2), (2, 1), (2, 2), (3, 1)]
            for letters in (1, 2, 3) for _ in range(many)]


class PackageTest(unittest.TestCase):
    """Checks that many tests need."""

    def same(self, found, wanted):
        """The found value is the wanted one, of the same kinds throughout."""
        self.assertIs(type(found), type(wanted), (found, wanted))
        if isinstance(wanted, (list, tuple)):
            self.assertEqual(len(found), len(wanted), (found, wanted))
            for mine, other in zip(found, wanted):
                self.same(mine, other)
        elif wanted is not found:
            self.assertEqual(found, wanted)

    def fails(self, error, told_parts, call, *parts, **named):
        """The call raises just this error, which holds the parts: the passed values, or equal ones."""
        with self.assertRaises(error) as caught:
            call(*parts, **named)
        self.assertIs(type(caught.exception), error)
        for name, wanted in told_parts.items():
            self.same(getattr(caught.exception, name), wanted)

    def fails_both(self, error, told_parts, call, **named):
        """As `fails`, with the parts by position, then by name."""
        self.fails(error, told_parts, call, *named.values())
        self.fails(error, told_parts, call, **named)

    def gives(self, wanted, call, **named):
        """The call returns this, by position and by name, also a second time; it changes nothing passed.

        What is returned is new: none of its lists is one that was passed or one of the first answer.
        """
        before = copy.deepcopy(list(named.values()))
        first = call(*named.values())
        again = call(**named)
        self.same(first, wanted)
        self.same(again, wanted)
        kinds = (list, tuple, Ratio, House)
        self.same([one for one in named.values() if isinstance(one, kinds)],
                  [one for one in before if isinstance(one, kinds)])
        mine = lists_within(first)
        others = lists_within(again) + lists_within(list(named.values()))
        self.assertFalse([one for one in mine if any(one is other for other in others)])
        self.assertEqual(len(mine), len({id(one) for one in mine}), "a list stands twice in what is returned")
