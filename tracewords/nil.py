"""The nil part of a house, a mixture in it, and the nil room [52], [54]."""
from tracewords.houses import check_house
from tracewords.lots import are_terms, base_pairs, table_by
from tracewords.solved import is_made, is_nought, kernel_rows, numbers_led, steps_of, whole_row
from tracewords.sums import sums_table
from tracewords.tables import columns_of, from_long, is_table, long_row


def nil_part(house):
    """The list of the tables of which the nil part is made."""
    return [from_long(row) for row in nil_rows(house)]


def is_nil(house, value):
    """Whether any value is a table of the nil part."""
    check_house(house)
    return is_table(value) and len(value) == house.width and is_made(nil_rows(house), long_row(value))


def nil_mixture(house):
    """A mixture whose table is in the nil part and is not nought; None if the house parts."""
    found = nil_numbers(house)
    if len(found) == 0:
        return None
    # The first list goes over the fewest base words.
    return [(word, number) for (word, _), number in zip(base_pairs(house), found[0]) if number.sign != 0]


def is_nil_mixture(house, value):
    """Whether any value is a mixture whose table is in the nil part and is not nought."""
    check_house(house)
    if not are_terms(value, house.many):
        return False
    table = table_by(house, value)
    return is_nil(house, table) and not is_nought(whole_row(long_row(table)))


def nil_room(house):
    """The room of the rows to which the tables of the nil part lead rows."""
    # A table leads the rows of the idle one to its own rows.
    return steps_of([row for table in nil_part(house) for row in table])


def nil_numbers(house):
    """Lists of numbers by which the base words' tables make tables of the nil part, all of it."""
    sums = sums_table(house)
    return kernel_rows(sums, len(sums))


def nil_rows(house):
    """The steps of the long rows of the nil part."""
    columns = columns_of([row for _, row in base_pairs(house)])
    return steps_of([numbers_led(numbers, columns) for numbers in nil_numbers(house)])
