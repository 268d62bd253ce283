"""[22] Base words, [23] Dimension, [24] Closed lots, [26] their example."""
import random
import unittest
from fractions import Fraction

from tests.helper import (Odd, PackageTest, fractions, no_lists, no_numbers, plain_idle, plain_long, plain_steps,
                          plain_times, plain_word, some_rows, spoiled, told, tupled, words_up_to)
from tests.test_houses import bad_words, no_houses
from tests.test_tables import bad_tables
from tracewords.errors import InvalidHouse, InvalidMixture, InvalidTable
from tracewords.houses import House
from tracewords.lots import (base_words, dimension, every_table, is_closed, is_mixture_of, lot_rows, mixture_of,
                             table_by)
from tracewords.ratios import Ratio

HALF = Ratio(1, 2)
SLOPE, CLIMB, DOUBLE = [[1, 1], [0, 1]], [[1, 0], [1, 1]], [[1, 0], [0, 2]]
FREE, BENT = House([SLOPE, CLIMB]), House([SLOPE, DOUBLE])
NOUGHT = House([[[0, 0], [0, 0]]])
CYCLE = House([[[0, 1, 0, 0], [0, 0, 1, 0], [0, 0, 0, 1], [1, 0, 0, 0]]])


def plain_base(letters, longest=5):
    """The base words by the document's words: of all words up to a length, those not made of the ones ahead."""
    found, rows = [], []
    for word in words_up_to(len(letters), longest):
        more = plain_steps(rows + [plain_long(plain_word(letters, word))])
        if len(more) > len(rows):
            found, rows = found + [word], more
    return found, rows


def plain_words(*houses):
    """The base words of all these letters, and the steps of their long rows: of all words as long as are needed.

    A word's row is put among the steps if they don't make it, whatever became of the word's beginning.
    """
    letters = list(zip(*[fractions(house) for house in houses]))
    found, rows = [], []
    words = [([], [plain_idle(len(house[0])) for house in houses])]
    while True:
        fresh = []
        for word, tables in words:
            more = plain_more(rows, [number for table in tables for number in plain_long(table)])
            if len(more) > len(rows):
                rows, fresh = more, fresh + [word]
        if not fresh:
            return found, rows
        found = found + fresh
        words = [(word + [at], [plain_times(table, its) for table, its in zip(tables, letter)])
                 for word, tables in words for at, letter in enumerate(letters)]


def plain_lot(letters):
    """The base words and the steps of their long rows."""
    return plain_words(letters)


def plain_left(rows, row):
    """The row, less what of these steps has the same numbers at their heads."""
    for step in rows:
        by = row[[number != 0 for number in step].index(True)]
        row = [mine - by * its for mine, its in zip(row, step)] if by else row
    return row


def plain_more(rows, row):
    """The steps of these steps and one row more."""
    left = plain_left(rows, row)
    if not any(left):
        return rows
    at = [number != 0 for number in left].index(True)
    left = [number / left[at] for number in left]
    return sorted([plain_left([left], step) for step in rows] + [left],
                  key=lambda step: [number != 0 for number in step].index(True))


def plain_made(rows, row):
    """Whether these rows, in steps, make the row."""
    return not any(plain_left(rows, row))


def some_houses(seed):
    """Letters with small numbers of sizes 1 to 3, one to three of them."""
    source = random.Random(seed)
    return [[some_rows(source, size, size) for _ in range(many)] for size in (1, 2, 3) for many in (1, 2, 3)
            for _ in range(3)]


def bad_mixtures(many):
    """Values that are no mixture of words of so many letters."""
    found = no_lists() + [[one] for one in no_lists()] + [[([], 1), one] for one in no_lists()]
    found += [[([0], one)] for one in no_numbers()] + [[(one, 1)] for one in bad_words(many)]
    found += [[[[0], 1]], [([], 1), [[0], 1]], [([0],)], [([0], 1, 1)], [()], ((), ()), [(1, [0])], ([0], 1)]
    found += [[([], 1)] * 41, ([([], 1)] * 41), {(): 1}]
    found += spoiled([([0], 1), ([0, 0], 2)]) + spoiled((((0,), 1), ((), 2)))
    return found


class BaseWordsTest(PackageTest):
    def test_example_of_26(self):
        self.gives([[], [0], [1], [0, 1]], base_words, house=FREE)
        self.gives([[], [0], [1]], base_words, house=BENT)

    def test_sizes_1_and_4(self):
        self.gives([[]], base_words, house=House([[[5]]]))
        self.gives([[]], base_words, house=House([[[5]], [[0]], [[HALF]]]))
        self.gives([[], [0], [0, 0], [0, 0, 0]], base_words, house=CYCLE)

    def test_noughts_and_a_letter_twice(self):
        self.gives([[]], base_words, house=NOUGHT)
        self.gives([[]], base_words, house=House([[[3, 0], [0, 3]]]))
        self.gives([[], [0]], base_words, house=House([SLOPE, SLOPE, SLOPE]))
        self.gives([[], [0], [2], [0, 2]], base_words, house=House([SLOPE, SLOPE, CLIMB]))

    def test_a_later_letter_is_made_of_an_earlier_one(self):
        self.gives([[], [1], [2], [1, 2]], base_words, house=House([[[2, 0], [0, 2]], SLOPE, CLIMB]))

    def test_a_long_base_word(self):
        letters = [[[0] * place + [1] + [0] * (3 - place) for place in (1, 2, 3, 0)], [[1, 0, 0, 0]] + [[0] * 4] * 3]
        wanted, _ = plain_base(letters, 7)
        self.assertEqual((len(wanted), max(map(len, wanted))), (16, 6))
        self.gives(wanted, base_words, house=House(letters))
        self.gives(True, every_table, house=House(letters))

    def test_by_the_words_of_the_document(self):
        for letters in some_houses(22):
            words, rows = plain_base(letters)
            house = House(letters)
            self.gives(words, base_words, house=house)
            self.gives(len(words), dimension, house=house)
            self.gives(told(rows), lot_rows, house=house)
            self.gives(len(words) == len(letters[0]) ** 2, every_table, house=house)


class DimensionTest(PackageTest):
    def test_dimension(self):
        for house, wanted in [(FREE, 4), (BENT, 3), (NOUGHT, 1), (CYCLE, 4), (House([[[7]]]), 1)]:
            self.gives(wanted, dimension, house=house)

    def test_every_table(self):
        for house, wanted in [(FREE, True), (BENT, False), (NOUGHT, False), (CYCLE, False), (House([[[0]]]), True)]:
            self.gives(wanted, every_table, house=house)

    def test_lot_rows(self):
        self.gives(told([[1, 0, 0, 0], [0, 1, 0, 0], [0, 0, 0, 1]]), lot_rows, house=BENT)
        self.gives(told([[1, 0, 0, 1]]), lot_rows, house=NOUGHT)
        self.gives(told([[1]]), lot_rows, house=House([[[9]]]))


class MixtureTest(PackageTest):
    def test_example_of_26(self):
        self.gives([([], Ratio(-1)), ([0], Ratio(2))], mixture_of, house=FREE, table=FREE.table([0, 0]))

    def test_mixture_of(self):
        self.gives([([], Ratio(-1)), ([0], Ratio(1))], mixture_of, house=FREE, table=((0, 1), (0, 0)))
        self.gives([([], HALF)], mixture_of, house=NOUGHT, table=[[HALF, 0], [0, HALF]])
        self.gives([([], Ratio(7))], mixture_of, house=House([[[3]]]), table=[[7]])

    def test_nought_has_the_empty_mixture(self):
        for house in [FREE, BENT, NOUGHT]:
            self.gives([], mixture_of, house=house, table=[[0, 0], [0, 0]])

    def test_not_in_the_lot(self):
        self.gives(None, mixture_of, house=BENT, table=[[0, 0], [1, 0]])
        self.gives(None, mixture_of, house=NOUGHT, table=SLOPE)

    def test_any(self):
        source = random.Random(23)
        seen = {True: 0, False: 0}
        for letters in some_houses(24):
            house = House(letters)
            table = some_rows(source, house.width, house.width)
            words, rows = plain_base(letters)
            made = len(plain_steps(rows + [plain_long(fractions(table))])) == len(rows)
            seen[made] += 1
            found = mixture_of(house, table)
            self.gives(found, mixture_of, house=house, table=table)
            if not made:
                self.assertIsNone(found)
                continue
            self.assertEqual([word for word, _ in found], [word for word in words if word in [one for one, _ in found]])
            self.assertNotIn(0, [number.sign for _, number in found])
            self.gives(told(table), table_by, house=house, mixture=found)
            self.gives(True, is_mixture_of, house=house, table=table, value=found)
        self.assertGreater(min(seen.values()), 3)

    def test_wrong_tables(self):
        for value in bad_tables() + [[[1]], told(plain_idle(3))]:
            self.fails_both(InvalidTable, {"value": value}, mixture_of, house=FREE, table=value)
            self.fails_both(InvalidTable, {"value": value}, is_mixture_of, house=FREE, table=value, value=[])


class TableByTest(PackageTest):
    def test_table_by(self):
        self.gives(told([[0, 0], [0, 0]]), table_by, house=FREE, mixture=[])
        self.gives(told([[0, 0], [0, 0]]), table_by, house=FREE, mixture=())
        self.gives(told([[0, 0], [0, 0]]), table_by, house=BENT, mixture=[([0], 2), ([0], -2)])
        self.gives(told([[5, 3], [0, 5]]), table_by, house=FREE, mixture=[([], 2), ([0], 3)])
        self.gives(told([[Fraction(3, 2), Fraction(1, 2)], [1, 1]]), table_by, house=FREE,
                   mixture=(((0, 1), HALF), ([1], Ratio(1, 2))))

    def test_forty_tuples_and_long_words(self):
        self.gives(told([[40, 0], [0, 40]]), table_by, house=FREE, mixture=[([], 1)] * 40)
        self.gives(told([[1, 16], [0, 1]]), table_by, house=FREE, mixture=[([0] * 16, 1)])

    def test_wrong_mixtures(self):
        for value in bad_mixtures(2):
            self.fails_both(InvalidMixture, {"value": value}, table_by, house=FREE, mixture=value)

    def test_words_are_those_of_the_house(self):
        self.fails(InvalidMixture, {"value": [([1], 1)]}, table_by, House([SLOPE]), [([1], 1)])


class IsMixtureTest(PackageTest):
    def test_whatever_words(self):
        square = [[1, 2], [0, 1]]
        for value in [[([0, 0], 1)], (((0, 0), Ratio(1)),), [([], -1), ([0], 2)], [([0, 0], HALF), ((0, 0), HALF)],
                      [([0, 0], 1), ([1], 0)]]:
            self.gives(True, is_mixture_of, house=FREE, table=square, value=value)
        for value in [[], [([0, 0], 2)], [([0], 1)], [([0, 0], 1), ([], 1)]]:
            self.gives(False, is_mixture_of, house=FREE, table=square, value=value)

    def test_empty_and_forty(self):
        self.gives(True, is_mixture_of, house=FREE, table=[[0, 0], [0, 0]], value=())
        self.gives(True, is_mixture_of, house=FREE, table=((40, 0), (0, 40)), value=[([], 1)] * 40)
        self.gives(False, is_mixture_of, house=FREE, table=[[41, 0], [0, 41]], value=[([], 1)] * 41)

    def test_values_of_every_kind(self):
        for value in bad_mixtures(2):
            self.same(is_mixture_of(FREE, [[1, 0], [0, 1]], value), False)
            self.same(is_mixture_of(value=value, table=SLOPE, house=FREE), False)

    def test_lists_and_bools_inside(self):
        table = [[1, 0], [0, 1]]
        self.gives(False, is_mixture_of, house=FREE, table=table, value=[[[], 1]])
        self.gives(False, is_mixture_of, house=FREE, table=table, value=[([], True)])
        self.gives(False, is_mixture_of, house=FREE, table=SLOPE, value=[([False], 1)])
        self.gives(True, is_mixture_of, house=FREE, table=SLOPE, value=[([0], 1)])


class ClosedTest(PackageTest):
    def test_closed(self):
        whole = [[1, 0, 0, 0], [0, 1, 0, 0], [0, 0, 1, 0], [0, 0, 0, 1]]
        for house, value in [(BENT, [[1, 0, 0, 0], [0, 1, 0, 0], [0, 0, 0, 1]]), (BENT, whole), (FREE, tupled(whole)),
                             (NOUGHT, [[1, 0, 0, 1]]), (NOUGHT, ((Ratio(1), 0, 0, 1),)), (NOUGHT, whole),
                             (House([SLOPE]), [[1, 0, 0, 1], [0, 1, 0, 0]]), (House([[[4]]]), [[1]])]:
            self.gives(True, is_closed, house=house, value=value)

    def test_not_closed(self):
        for house, value in [(BENT, [[1, 0, 0, 1]]), (BENT, []), (FREE, ()), (NOUGHT, [[1, 0, 0, 0]]),
                             (FREE, [[1, 0, 0, 0], [0, 1, 0, 0], [0, 0, 0, 1]]), (NOUGHT, [[2, 0, 0, 2]]),
                             (NOUGHT, [[1, 0, 0, 1], [0, 0, 0, 0]]), (NOUGHT, [[1, 0, 0, 1], [1, 0, 0, 1]]),
                             (NOUGHT, [[1, 0, 0, 1, 0]]), (NOUGHT, [[1]]), (NOUGHT, [[0, 1, 0, 0], [1, 0, 0, 1]]),
                             (House([SLOPE]), [[0, 1, 0, 0]]), (NOUGHT, [[1, 1, 0, 1], [0, 1, 0, 0]])]:
            self.gives(False, is_closed, house=house, value=value)

    def test_the_letter_stands_behind(self):
        house = House([[[1, 0, 0], [0, 1, 0], [0, 0, 2]]])
        idle_rest = [0, 0, 0, 0, 0, 0, 0, 0, 1]
        # (1 0 0, 0 0 0, 1 0 0) times the letter is itself; the letter times it is (1 0 0, 0 0 0, 2 0 0).
        behind = [[1, 0, 0, 0, 0, 0, 1, 0, 0], [0, 0, 0, 0, 1, 0, -1, 0, 0], idle_rest]
        self.gives(True, is_closed, house=house, value=behind)
        # The other way round with (1 0 1, 0 0 0, 0 0 0).
        ahead = [[1, 0, 0, 0, 1, 0, 0, 0, 0], [0, 0, 1, 0, -1, 0, 0, 0, 0], idle_rest]
        self.gives(False, is_closed, house=house, value=ahead)

    def test_own_lots_are_closed_and_least(self):
        for letters in some_houses(25):
            house = House(letters)
            rows = lot_rows(house)
            self.gives(True, is_closed, house=house, value=rows)
            for at in range(len(rows)):
                self.same(is_closed(house, rows[:at] + rows[at + 1:]), False)

    def test_by_the_words_of_the_document(self):
        source = random.Random(27)
        seen = {True: 0, False: 0}
        for _ in range(600):
            letters = [some_rows(source, 2, 2) for _ in range(source.choice([1, 1, 2]))]
            rows = plain_steps([[1, 0, 0, 1]] + some_rows(source, source.choice([0, 1, 2]), 4))
            wanted = True
            for letter in letters:
                for row in rows:
                    led = [sum(row[2 * i + k] * fractions(letter)[k][j] for k in range(2))
                           for i in range(2) for j in range(2)]
                    wanted = wanted and len(plain_steps(rows + [led])) == len(rows)
            seen[wanted] += 1
            self.same(is_closed(House(letters), told(rows)), wanted)
        self.assertGreater(min(seen.values()), 20)

    def test_values_of_every_kind(self):
        bad = no_lists() + [[one] for one in no_lists()] + [[[1, 0, 0, 1], one] for one in no_lists()]
        bad += [[[1, 0, 0, one]] for one in no_numbers()] + [[[one, 0, 0, 1]] for one in no_numbers()]
        bad += [[[]], [[[1, 0], [0, 1]]], [[1, 0, 0, 1]] * 5, Odd()] + spoiled([[1, 0, 0, 0], [0, 0, 0, 1]])
        for value in bad:
            self.same(is_closed(NOUGHT, value), False)
            self.same(is_closed(house=NOUGHT, value=value), False)


class LotErrorsTest(PackageTest):
    def test_wrong_houses(self):
        for value in no_houses():
            for call in [base_words, dimension, lot_rows, every_table]:
                self.fails_both(InvalidHouse, {"value": value}, call, house=value)
            self.fails_both(InvalidHouse, {"value": value}, mixture_of, house=value, table=SLOPE)
            self.fails_both(InvalidHouse, {"value": value}, is_mixture_of, house=value, table=SLOPE, value=[])
            self.fails_both(InvalidHouse, {"value": value}, table_by, house=value, mixture=[])
            self.fails_both(InvalidHouse, {"value": value}, is_closed, house=value, value=[])

    def test_first_error(self):
        self.fails(InvalidHouse, {"value": 0}, mixture_of, 0, "table")
        self.fails(InvalidHouse, {"value": 0}, table_by, mixture="x", house=0)
        self.fails(InvalidTable, {"value": [[1]]}, is_mixture_of, FREE, [[1]], "x")


if __name__ == "__main__":
    unittest.main()
