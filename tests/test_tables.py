"""[5] Rows, tables; [14] Tables; [15] Long rows."""
import itertools
import random
import unittest
from fractions import Fraction

from tests.helper import (PackageTest, fractions, no_counts, no_lists, no_numbers, plain_idle, plain_long,
                          plain_sum, plain_times, some_rows, spoiled, told, tupled)
from tracewords.errors import InvalidNumber, InvalidRow, InvalidSize, InvalidTable, NotUndone, UnlikeSizes
from tracewords.ratios import Ratio
from tracewords.tables import (about, determinant, from_long, idle, is_table, led, long_row, mixed, scaled, sum_on,
                               times, undone)

HALF = Ratio(1, 2)
TABLE = [[1, 2], [0, 3]]
SWAP = [[0, 1], [1, 0]]


def bad_tables():
    """Values that are no tables of any size."""
    found = no_lists() + [[], (), [[]], [[], []], [1], [[1, 2]], [[1], [2]], [[1, 2], [3]], [[1], [2, 3]]]
    found += [[one] for one in no_lists()] + [[[1, 2], one] for one in no_lists()]
    found += [[[one]] for one in no_numbers()] + [[[1, 0], [one, 1]] for one in no_numbers()]
    found += spoiled([[1, 2], [3, 4]]) + spoiled(((1, 0, 0), (0, 1, 0), (0, 0, 1))) + [[None, None], [5, 5]]
    found += [[[1, 2], [3, 4], [5, 6]], [[1, 2, 3], [4, 5, 6]], [[[1]]], plain_idle(5), [[0] * 5 for _ in range(5)]]
    return found


def bad_rows():
    """Values that are no rows of size 1 to 4."""
    found = no_lists() + [[], (), [1] * 5] + [[one] for one in no_numbers()] + [[1, one, 0] for one in no_numbers()]
    return found + spoiled([1, 2, 3]) + spoiled((1, 2))


def tables(seed, many, sizes=(1, 2, 3, 4)):
    """Tables of these sizes, many numbers of them 0."""
    source = random.Random(seed)
    return [some_rows(source, size, size) for size in sizes for _ in range(many)]


def pairs(seed, many):
    """Pairs of tables of one size."""
    return list(zip(tables(seed, many), tables(seed + 1, many)))


def plain_determinant(table):
    """By all rearrangements of the places, of Fractions."""
    found = Fraction(0)
    for order in itertools.permutations(range(len(table))):
        part = Fraction(1)
        for at, place in enumerate(order):
            part = part * fractions(table)[at][place]
        turned = sum(1 for one, other in itertools.combinations(order, 2) if one > other)
        found += part if turned % 2 == 0 else -part
    return found


def plain_told(size):
    """The idle table of a size, as the package tells it."""
    return told(plain_idle(size))


class IsTableTest(PackageTest):
    def test_tables(self):
        for value in [[[0]], ((0,),), [(1, 2), [3, HALF]], TABLE, plain_told(3), plain_told(4)] + tables(1, 3):
            self.gives(True, is_table, value=value)

    def test_no_tables(self):
        for value in bad_tables():
            self.same(is_table(value), False)
            self.same(is_table(value=value), False)

    def test_bools(self):
        for value in [[[True]], [[False]], [[1, 0], [0, True]], ((1, False), (0, 1))]:
            self.gives(False, is_table, value=value)


class IdleTest(PackageTest):
    def test_sizes(self):
        for size in [1, 2, 3, 4]:
            self.gives(plain_told(size), idle, size=size)

    def test_wrong_sizes(self):
        for value in no_counts() + [0, 5, 10 ** 20]:
            self.fails_both(InvalidSize, {"value": value}, idle, size=value)

    def test_it_leads_each_row_to_itself(self):
        for size in [1, 2, 3, 4]:
            row = told([3, -1, 0, 7][:size])
            self.gives(row, led, row=row, table=idle(size))


class TimesTest(PackageTest):
    def test_by_fractions(self):
        for table, other in pairs(2, 8):
            self.gives(told(plain_times(fractions(table), fractions(other))), times, table=table, other=other)

    def test_the_first_table_leads_first(self):
        self.gives(told([[2, 1], [3, 0]]), times, table=TABLE, other=SWAP)
        self.gives(told([[0, 3], [1, 2]]), times, table=SWAP, other=TABLE)
        row = [5, 7]
        self.same(led(row, times(TABLE, SWAP)), led(led(row, TABLE), SWAP))

    def test_tuples(self):
        self.gives(told([[2, 1], [3, 0]]), times, table=tupled(TABLE), other=(list(SWAP[0]), SWAP[1]))

    def test_sum_stays_when_turned_round(self):
        for table, other in pairs(3, 5):
            self.assertEqual(sum_on(times(table, other)), sum_on(times(other, table)))

    def test_itself(self):
        self.gives(told([[1, 8], [0, 9]]), times, table=TABLE, other=TABLE)


class MixedTest(PackageTest):
    def test_by_fractions(self):
        for number in [0, 1, -2, Ratio(3, 7)]:
            for table, other in pairs(4, 3):
                by = fractions(number)
                wanted = [[one + by * two for one, two in zip(row, line)]
                          for row, line in zip(fractions(table), fractions(other))]
                self.gives(told(wanted), mixed, table=table, other=other, number=number)

    def test_scaled(self):
        for number in [0, 1, -2, Ratio(3, 7)]:
            for table in tables(5, 3):
                wanted = [[one * fractions(number) for one in row] for row in fractions(table)]
                self.gives(told(wanted), scaled, table=table, number=number)


class SumsTest(PackageTest):
    def test_sum_on(self):
        for table in tables(6, 6):
            self.gives(told(plain_sum(fractions(table))), sum_on, table=table)
        self.gives(Ratio(5), sum_on, table=((5,),))
        self.gives(Ratio(9, 2), sum_on, table=[[1, 9], [9, Ratio(7, 2)]])

    def test_determinant(self):
        source = random.Random(7)
        for table in tables(7, 8) + [[[source.randint(-9, 9) for _ in range(4)] for _ in range(4)] for _ in range(5)]:
            self.gives(told(plain_determinant(table)), determinant, table=table)
        self.gives(Ratio(-1), determinant, table=SWAP)
        self.gives(Ratio(-1), determinant, table=[[0, 0, 1], [0, 1, 0], [1, 0, 0]])
        self.gives(Ratio(5, 3), determinant, table=((Ratio(5, 3),),))

    def test_determinant_of_a_product(self):
        for table, other in pairs(8, 4):
            self.assertEqual(determinant(times(table, other)), determinant(table) * determinant(other))


class AboutTest(PackageTest):
    def test_columns_as_rows(self):
        for table in tables(9, 4):
            self.gives(told([list(column) for column in zip(*table)]), about, table=table)
        self.gives(told([[1, 0], [2, 3]]), about, table=((1, 2), (0, 3)))

    def test_products_turn_round_and_determinants_stay(self):
        for table, other in pairs(10, 3):
            self.assertEqual(about(times(table, other)), times(about(other), about(table)))
            self.assertEqual(determinant(about(table)), determinant(table))


class UndoneTest(PackageTest):
    def test_both_products_are_idle(self):
        seen = 0
        for table in tables(11, 20) + [SWAP, TABLE, [[0, 0, 2], [0, HALF, 0], [-3, 0, 0]]]:
            if plain_determinant(table) != 0:
                seen += 1
                back = undone(table)
                self.gives(back, undone, table=table)
                self.assertEqual(plain_times(fractions(table), fractions(back)), plain_idle(len(table)))
                self.assertEqual(plain_times(fractions(back), fractions(table)), plain_idle(len(table)))
        self.assertGreater(seen, 20)

    def test_not_undone(self):
        for table in [[[0]], [[1, 1], [1, 1]], [[0, 0], [0, 0]], ((1, 2), (2, 4)), [[1, 2, 3], [4, 5, 6], [7, 8, 9]]]:
            self.fails_both(NotUndone, {}, undone, table=table)
        for table in tables(12, 20):
            if plain_determinant(table) == 0:
                self.fails_both(NotUndone, {}, undone, table=table)


class LedTest(PackageTest):
    def test_by_fractions(self):
        source = random.Random(14)
        for table in tables(13, 5):
            row = some_rows(source, 1, len(table))[0]
            wanted = plain_times([fractions(row)], fractions(table))[0]
            self.gives(told(wanted), led, row=row, table=table)

    def test_it_is_the_row_that_is_led(self):
        self.gives(told([1, 2]), led, row=(1, 0), table=TABLE)
        self.gives(told([0, 3]), led, row=[0, 1], table=tupled(TABLE))

    def test_wrong_rows(self):
        for value in bad_rows():
            self.fails_both(InvalidRow, {"value": value}, led, row=value, table=TABLE)
            self.fails_both(InvalidRow, {"value": value}, led, row=value, table="no table")

    def test_unlike_sizes(self):
        self.fails_both(UnlikeSizes, {}, led, row=[1], table=TABLE)
        self.fails_both(UnlikeSizes, {}, led, row=(1, 2, 3), table=TABLE)
        self.fails_both(UnlikeSizes, {}, led, row=[1, 2, 3, 4], table=[[1]])


class LongRowTest(PackageTest):
    def test_there_and_back(self):
        for table in tables(15, 4):
            self.gives(told(plain_long(table)), long_row, table=table)
            self.gives(told(table), from_long, row=plain_long(table))

    def test_ordinary(self):
        self.gives(told([1, 2, 0, 3]), long_row, table=tupled(TABLE))
        self.gives(told(TABLE), from_long, row=(1, 2, 0, 3))
        self.gives(told([[5]]), from_long, row=[5])
        self.gives(told([[4 * at + place for place in range(4)] for at in range(4)]), from_long, row=list(range(16)))

    def test_wrong_long_rows(self):
        bad = [[0] * many for many in range(30) if many not in (1, 4, 9, 16)]
        bad += no_lists() + [[one] for one in no_numbers()] + [[0, 1, one, 1] for one in no_numbers()] + [[[1]], ()]
        for value in bad:
            self.fails_both(InvalidRow, {"value": value}, from_long, row=value)


class TableErrorsTest(PackageTest):
    def test_wrong_tables(self):
        for value in bad_tables():
            for call in [sum_on, determinant, about, undone, long_row]:
                self.fails_both(InvalidTable, {"value": value}, call, table=value)
            self.fails_both(InvalidTable, {"value": value}, times, table=value, other=TABLE)
            self.fails_both(InvalidTable, {"value": value}, times, table=TABLE, other=value)
            self.fails_both(InvalidTable, {"value": value}, mixed, table=value, other=TABLE, number=1)
            self.fails_both(InvalidTable, {"value": value}, mixed, table=TABLE, other=value, number=1)
            self.fails_both(InvalidTable, {"value": value}, scaled, table=value, number=1)
            self.fails_both(InvalidTable, {"value": value}, led, row=[1, 2], table=value)

    def test_wrong_numbers(self):
        for value in no_numbers():
            self.fails_both(InvalidNumber, {"value": value}, scaled, table=TABLE, number=value)
            self.fails_both(InvalidNumber, {"value": value}, mixed, table=TABLE, other=SWAP, number=value)
            self.fails_both(InvalidNumber, {"value": value}, mixed, table=TABLE, other=[[1]], number=value)

    def test_unlike_sizes(self):
        for other in [[[1]], plain_told(3), plain_told(4)]:
            self.fails_both(UnlikeSizes, {}, times, table=TABLE, other=other)
            self.fails_both(UnlikeSizes, {}, times, table=other, other=TABLE)
            self.fails_both(UnlikeSizes, {}, mixed, table=TABLE, other=other, number=HALF)

    def test_first_error(self):
        self.fails(InvalidTable, {"value": "a"}, times, "a", "b")
        self.fails(InvalidTable, {"value": "a"}, mixed, number="c", other="b", table="a")
        self.fails(InvalidTable, {"value": "b"}, mixed, number="c", other="b", table=[[1]])
        self.fails(InvalidNumber, {"value": True}, mixed, [[1]], TABLE, True)
        self.fails(InvalidTable, {"value": [[True]]}, scaled, [[True]], None)
        self.fails(InvalidRow, {"value": [False]}, led, [False], [[True]])


if __name__ == "__main__":
    unittest.main()
