"""Square tables and their long rows [5], [14], [15]."""
from tracewords.basics import is_count, is_list
from tracewords.errors import InvalidRow, InvalidSize, InvalidTable, NotUndone, UnlikeSizes
from tracewords.ratios import Ratio, are_numbers, ratio_of, ratio_row
from tracewords.solved import are_rows_of, numbers_led, steps_of

LARGEST = 4


def is_table(value):
    """Whether any value is a table."""
    return is_list(value) and 1 <= len(value) <= LARGEST and are_rows_of(value, LARGEST, len(value))


def idle(size):
    """The table of this size that leads each row to itself."""
    if not is_size(size):
        raise InvalidSize(size)
    return [[Ratio(1 if at == place else 0) for place in range(size)] for at in range(size)]


def times(table, other):
    """The product: the table first, then the other one."""
    first, second = told_table(table), told_table(other)
    check_sizes(first, second)
    columns = columns_of(second)
    return [numbers_led(row, columns) for row in first]


def mixed(table, other, number):
    """The table and the other one times the number, added."""
    first, second, by = told_table(table), told_table(other), ratio_of(number)
    check_sizes(first, second)
    return [[mine + by * its for mine, its in zip(row, line)] for row, line in zip(first, second)]


def scaled(table, number):
    """The table times the number."""
    told, by = told_table(table), ratio_of(number)
    return [[by * one for one in row] for row in told]


def sum_on(table):
    """The sum of the numbers on the table's line."""
    return Ratio.total([row[at] for at, row in enumerate(told_table(table))])


def determinant(table):
    """The table's determinant."""
    return determinant_of(told_table(table))


def determinant_of(rows):
    """The determinant of lists of Ratios, by the places of the first one."""
    if len(rows) == 1:
        return rows[0][0]
    found = Ratio(0)
    for place, number in enumerate(rows[0]):
        part = number * determinant_of([row[:place] + row[place + 1:] for row in rows[1:]])
        found = found + part if place % 2 == 0 else found - part
    return found


def about(table):
    """The table turned about: its columns as rows."""
    return columns_of(told_table(table))


def undone(table):
    """The table that undoes this one."""
    told = told_table(table)
    size = len(told)
    if determinant_of(told).sign == 0:
        raise NotUndone()
    # Steps that turn the table into the idle one turn the idle one beside it into what undoes it.
    beside = [row + line for row, line in zip(told, idle(size))]
    return [row[size:] for row in steps_of(beside)]


def led(row, table):
    """The row that the table leads this one to."""
    if not are_numbers(row) or not 1 <= len(row) <= LARGEST:
        raise InvalidRow(row)
    told = told_table(table)
    check_sizes(row, told)
    return numbers_led(row, columns_of(told))


def long_row(table):
    """The table's rows behind one another."""
    return [number for row in told_table(table) for number in row]


def from_long(row):
    """The table of this long row."""
    for size in range(1, LARGEST + 1):
        if are_numbers(row) and len(row) == size * size:
            told = ratio_row(row)
            return [told[size * at:size * at + size] for at in range(size)]
    raise InvalidRow(row)


def told_table(table):
    """The table as new lists of Ratios; raises InvalidTable unless it is one."""
    if not is_table(table):
        raise InvalidTable(table)
    return [ratio_row(row) for row in table]


def are_tables(value, most):
    """Whether any value is a list of 1 to so many tables of one size."""
    if not is_list(value) or not 1 <= len(value) <= most:
        return False
    # Only a table is known to have a size, so none is asked for before all of them are known to be tables.
    return all([is_table(table) for table in value]) and all([len(table) == len(value[0]) for table in value])


def is_size(value):
    """Whether any value is a COUNT from 1 to 4."""
    return is_count(value) and 1 <= value <= LARGEST


def check_sizes(rows, others):
    """Raise UnlikeSizes unless both have one size."""
    if len(rows) != len(others):
        raise UnlikeSizes()


def columns_of(rows):
    """The columns of lists that are alike long, as lists."""
    return [list(column) for column in zip(*rows)]
