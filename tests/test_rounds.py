"""[81] Rounds, [82] Too many tables, [83] Standard tables, [84] Power sums, line numbers."""
import itertools
import math
import random
import unittest
from fractions import Fraction

from tests.helper import (Odd, PackageTest, fractions, no_counts, no_lists, no_numbers, plain_idle, plain_sum,
                          plain_times, some_rows, spoiled, told, tupled, whole_room)
from tests.test_tables import bad_tables
from tracewords.errors import InvalidMany, InvalidTable, InvalidTables
from tracewords.ratios import Ratio
from tracewords.rounds import line_numbers, power_sums, round_sum, standard
from tracewords.tables import determinant

HALF = Ratio(1, 2)
ONE, OTHER = [[1, 1], [0, 3]], [[0, 1], [1, 0]]
BIG = [[1, 2, 0, -1], [3, 0, HALF, 1], [0, 0, 5, 1], [2, 1, 1, Ratio(-1, 3)]]


def rounds_of(order):
    """The rounds of a rearrangement, each a list of positions."""
    found, seen = [], set()
    for first in range(len(order)):
        if first not in seen:
            found.append([])
            while first not in seen:
                seen.add(first)
                found[-1].append(first)
                first = order[first]
    return found


def plain_sign(order):
    """The sign of a rearrangement, by its rounds."""
    return math.prod([1 if len(one) % 2 == 1 else -1 for one in rounds_of(order)])


def plain_product(tables):
    """The product of tables, of Fractions."""
    found = plain_idle(len(tables[0]))
    for table in tables:
        found = plain_times(found, table)
    return found


def plain_round_sum(tables):
    """The round sum, by the document's words."""
    tables = [fractions(table) for table in tables]
    total = Fraction(0)
    for order in itertools.permutations(range(len(tables))):
        sums = [plain_sum(plain_product([tables[at] for at in one])) for one in rounds_of(order)]
        total += plain_sign(order) * math.prod(sums)
    return total


def plain_standard(tables):
    """The standard table, by the document's words."""
    tables = [fractions(table) for table in tables]
    size = len(tables[0])
    total = [[Fraction(0)] * size for _ in range(size)]
    for order in itertools.permutations(range(len(tables))):
        one = plain_product([tables[at] for at in order])
        total = [[mine + plain_sign(order) * its for mine, its in zip(row, line)] for row, line in zip(total, one)]
    return total


def some_lots(seed, most):
    """Lists of one to so many tables of one size, of each size."""
    source = random.Random(seed)
    return [[some_rows(source, size, size) for _ in range(many)] for size in (1, 2, 3, 4)
            for many in range(1, most + 1)]


def bad_lists(most):
    """Values that are no list of one to so many tables of one size."""
    found = no_lists() + [[], (), ONE, [1], [ONE, [[1]]], [[[1]], ONE], [ONE] * (most + 1), (ONE,) * (most + 1)]
    found += [[ONE, one] for one in bad_tables()] + [[one, ONE, OTHER] for one in bad_tables()]
    found += [[one, one,
               ONE] for one in no_lists()] + [[one] for one in no_lists()] + [[[[one]]] for one in no_numbers()]
    return found + spoiled([ONE, OTHER, ONE]) + spoiled(tupled([ONE, OTHER])) + [[[[0] * 5] * 5], Odd()]


class RoundSumTest(PackageTest):
    def test_ordinary(self):
        self.gives(Ratio(4), round_sum, tables=[ONE])
        self.gives(Ratio(-1), round_sum, tables=[ONE, OTHER])
        self.gives(Ratio(6), round_sum, tables=[ONE, ONE])
        self.gives(Ratio(0), round_sum, tables=[ONE, OTHER, ONE])
        self.gives(Ratio(1, 2), round_sum, tables=([[HALF]],))
        self.gives(Ratio(0), round_sum, tables=[[[HALF]], [[7]]])

    def test_products_stand_in_the_sequence_of_the_round(self):
        first, second, third = [[0, 1, 0], [0, 0, 0], [0, 0, 0]], [[0, 0, 0], [0, 0, 1], [0, 0, 0]], \
            [[0, 0, 0], [0, 0, 0], [1, 0, 0]]
        self.gives(Ratio(1), round_sum, tables=[first, second, third])
        self.gives(Ratio(1), round_sum, tables=[first, third, second])

    def test_by_the_words_of_the_document(self):
        for tables in some_lots(811, 5):
            if len(tables) < 5 or len(tables[0]) in (1, 4):
                self.gives(told(plain_round_sum(tables)), round_sum, tables=tables)
        self.gives(told(plain_round_sum([ONE, OTHER])), round_sum, tables=tupled([ONE, OTHER]))

    def test_more_tables_than_the_size(self):
        for tables in some_lots(812, 5):
            if len(tables) > len(tables[0]):
                self.gives(Ratio(0), round_sum, tables=tables)

    def test_another_sequence(self):
        source = random.Random(813)
        for tables in some_lots(814, 4):
            other = list(tables)
            source.shuffle(other)
            self.same(round_sum(other), round_sum(tables))

    def test_sums_and_multiples_in_each_place(self):
        for tables in some_lots(815, 4):
            for at, table in enumerate(tables):
                other = some_rows(random.Random(816 + at), len(table), len(table))
                both = [[mine + Ratio(2, 3) * its for mine, its in zip(row, line)]
                        for row, line in zip(told(table), told(other))]
                left, right, whole = [[*tables[:at], one, *tables[at + 1:]] for one in (table, other, both)]
                self.same(round_sum(whole), round_sum(left) + Ratio(2, 3) * round_sum(right))

    def test_the_same_table_more_than_once(self):
        for table in [[[5]], [[HALF]], ONE, OTHER, [[1, 2, 3], [0, 1, HALF], [5, 0, 0]], BIG]:
            numbers = line_numbers(table)
            for many in range(1, 6):
                left = numbers[len(table) - many] if many <= len(table) else Ratio(0)
                wanted = left * math.factorial(many) * (-1 if many % 2 == 1 else 1)
                self.gives(wanted, round_sum, tables=[table] * many)
            if len(table) < 5:
                self.same(round_sum([table] * len(table)), determinant(table) * math.factorial(len(table)))

    def test_wrong_tables(self):
        for value in bad_lists(5):
            self.fails_both(InvalidTables, {"value": value}, round_sum, tables=value)


class StandardTest(PackageTest):
    def test_ordinary(self):
        self.gives(told([[1, -2], [2, -1]]), standard, tables=[ONE, OTHER])
        self.gives(told([[-1, 2], [-2, 1]]), standard, tables=(tupled(OTHER), ONE))
        self.gives(told(ONE), standard, tables=[ONE])
        self.gives([[HALF]], standard, tables=[[[HALF]]])
        self.gives(told([[0]]), standard, tables=[[[HALF]], [[3]]])

    def test_by_the_words_of_the_document(self):
        for tables in some_lots(831, 6):
            if len(tables) < 6 or len(tables[0]) == 4:
                self.gives(told(plain_standard(tables)), standard, tables=tables)

    def test_twice_the_size(self):
        for tables in some_lots(832, 6):
            if len(tables) >= 2 * len(tables[0]):
                size = len(tables[0])
                self.gives(told([[0] * size for _ in range(size)]), standard, tables=tables)

    def test_two_tables_exchanged_and_alike_ones(self):
        source = random.Random(833)
        for tables in some_lots(834, 6):
            if len(tables) > 1:
                mine, its = source.sample(range(len(tables)), 2)
                other = list(tables)
                other[mine], other[its] = other[its], other[mine]
                self.assertEqual(standard(other), [[-number for number in row] for row in standard(tables)])
                other[mine] = other[its]
                size = len(other[0])
                self.gives(told([[0] * size for _ in range(size)]), standard, tables=other)

    def test_six_tables_that_come_to_something(self):
        chain = [[int(place == at + 1) for place in range(4)] for at in range(4)]
        units = [[[int((at, place) == one) for place in range(4)] for at in range(4)]
                 for one in [(0, 0), (0, 1), (1, 1), (1, 2), (2, 2), (2, 3)]]
        self.gives(told(plain_standard(units)), standard, tables=units)
        self.same(standard(units)[0][3], Ratio(1))
        self.gives(told([[0] * 4 for _ in range(4)]), standard, tables=[chain] * 6)

    def test_wrong_tables(self):
        for value in bad_lists(6):
            self.fails_both(InvalidTables, {"value": value}, standard, tables=value)


class PowerSumsTest(PackageTest):
    def test_ordinary(self):
        self.gives(told([2, 4, 10, 28]), power_sums, table=ONE, many=3)
        self.gives(told([2]), power_sums, table=ONE, many=0)
        self.gives(told([1, HALF, Ratio(1, 4)]), power_sums, table=((HALF,),), many=2)
        self.gives(told([2] + [0] * 12), power_sums, table=[[0, 5], [0, 0]], many=12)
        self.gives(told([4 if many % 4 == 0 else 0 for many in range(13)]), power_sums,
                   table=[[0, 1, 0, 0], [0, 0, 1, 0], [0, 0, 0, 1], [1, 0, 0, 0]], many=12)

    def test_by_the_words_of_the_document(self):
        source = random.Random(841)
        for size in (1, 2, 3, 4):
            for many in (0, 1, size, 5, 12):
                table = some_rows(source, size, size)
                sums = [plain_sum(plain_product([fractions(table)] * power if power else [plain_idle(size)]))
                        for power in range(many + 1)]
                self.gives(told(sums), power_sums, table=table, many=many)

    def test_wrong_tables(self):
        for value in bad_tables():
            self.fails_both(InvalidTable, {"value": value}, power_sums, table=value, many=2)

    def test_wrong_many(self):
        for value in no_counts() + [13, 10 ** 20, [0], Ratio(12)]:
            self.fails_both(InvalidMany, {"value": value}, power_sums, table=ONE, many=value)

    def test_first_error(self):
        self.fails(InvalidTable, {"value": [[1, 2]]}, power_sums, many=True, table=[[1, 2]])
        self.fails(InvalidMany, {"value": True}, power_sums, many=True, table=[[1]])


class LineNumbersTest(PackageTest):
    def test_ordinary(self):
        self.gives(told([3, -4, 1]), line_numbers, table=ONE)
        self.gives(told([-1, 0, 1]), line_numbers, table=OTHER)
        self.gives(told([-5, 1]), line_numbers, table=[[5]])
        self.gives(told([0, 1]), line_numbers, table=((0,),))
        self.gives(told([1, -4, 6, -4, 1]), line_numbers, table=whole_room(4))

    def test_the_value_at_any_number(self):
        source = random.Random(842)
        for size in (1, 2, 3, 4):
            for _ in range(4):
                table = some_rows(source, size, size)
                found = line_numbers(table)
                self.gives(found, line_numbers, table=table)
                self.same((len(found), found[-1]), (size + 1, Ratio(1)))
                for number in [0, 1, -2, Ratio(3, 2), 7, 10]:
                    less = [[(number if at == place else 0) - Ratio(1) * one for place, one in enumerate(row)]
                            for at, row in enumerate(table)]
                    value = Ratio(0)
                    for one in found[::-1]:
                        value = value * number + one
                    self.same(value, determinant(less))

    def test_the_table_put_in_comes_to_nought(self):
        for table in [[[3]], ONE, OTHER, [[1, 2, 3], [0, 1, HALF], [5, 0, 0]], BIG]:
            size = len(table)
            total = [[Fraction(0)] * size for _ in range(size)]
            for number in fractions(line_numbers(table))[::-1]:
                total = plain_times(total, fractions(table))
                total = [[one + number * (at == place) for place, one in enumerate(row)]
                         for at, row in enumerate(total)]
            self.assertEqual(total, [[0] * size for _ in range(size)])

    def test_newton(self):
        for table in [[[3]], ONE, [[1, 2, 3], [0, 1, HALF], [5, 0, 0]], BIG]:
            size = len(table)
            numbers, sums = line_numbers(table), power_sums(table, size)
            for k in range(1, size + 1):
                total = Ratio.total([numbers[size - i] * sums[k - i] for i in range(k)])
                self.assertEqual(k * numbers[size - k], -total)

    def test_wrong_tables(self):
        for value in bad_tables():
            self.fails_both(InvalidTable, {"value": value}, line_numbers, table=value)


if __name__ == "__main__":
    unittest.main()
