"""What is made of the words of a house: base words, the lot, closed lots [22], [23], [24]."""
from tracewords.basics import is_list
from tracewords.errors import InvalidMixture
from tracewords.houses import are_letters_at, check_house, table_of_size
from tracewords.ratios import is_number
from tracewords.sequence import free_words
from tracewords.solved import are_rows_of, are_steps, is_made, solution_of, steps_of
from tracewords.tables import columns_of, from_long, idle, long_row, mixed, scaled, times

MOST_TERMS = 40


def base_words(house):
    """The list of the base words, in sequence."""
    return [word for word, _ in base_pairs(house)]


def dimension(house):
    """How many base words there are."""
    return len(base_pairs(house))


def lot_rows(house):
    """The steps of the long rows of the lot."""
    return steps_of([row for _, row in base_pairs(house)])


def every_table(house):
    """Whether every table of the size is in the lot."""
    return dimension(house) == house.width * house.width


def mixture_of(house, table):
    """The mixture of base words whose table it is; None if it is not in the lot."""
    check_house(house)
    goals = long_row(table_of_size(house, table))
    pairs = base_pairs(house)
    numbers = solution_of(columns_of([row for _, row in pairs]), goals)
    if numbers is None:
        return None
    return [(word, number) for (word, _), number in zip(pairs, numbers) if number.sign != 0]


def is_mixture_of(house, table, value):
    """Whether any value is a mixture, of whatever words, with this table."""
    check_house(house)
    told = table_of_size(house, table)
    return are_terms(value, house.many) and table_by(house, value) == told


def table_by(house, mixture):
    """The table of the mixture."""
    check_house(house)
    if not are_terms(mixture, house.many):
        raise InvalidMixture(mixture)
    found = scaled(idle(house.width), 0)
    for word, number in mixture:
        found = mixed(found, house.table(word), number)
    return found


def is_closed(house, value):
    """Whether any value is the rows of a closed lot of the house."""
    check_house(house)
    wide = house.width * house.width
    if not are_rows_of(value, wide, wide) or not are_steps(value):
        return False
    letters = house.letters()
    wanted = [times(from_long(row), letter) for row in value for letter in letters]
    return all([is_made(value, long_row(table)) for table in [idle(house.width), *wanted]])


def base_pairs(house):
    """Tuples of each base word and its table's long row, in sequence."""
    check_house(house)
    return [(word, long_row(tables[0])) for word, tables in base_tables([house])]


def base_tables(houses):
    """Tuples of each base word of all these houses, with as many letters, and the list of its table in each house.

    These are the words whose long rows, behind one another, those of the words ahead do not make.
    """
    letters = columns_of([house.letters() for house in houses])
    first = [idle(house.width) for house in houses]
    yield from free_words(first, letters, letter_behind, long_rows)


def letter_behind(tables, letter):
    """The tables, in each house, of a word with this letter of each house behind it."""
    return [times(table, its) for table, its in zip(tables, letter)]


def long_rows(tables):
    """The long rows of the tables, behind one another."""
    return [number for table in tables for number in long_row(table)]


def are_terms(value, many):
    """Whether any value is a mixture of words of so many letters."""
    return is_list(value) and len(value) <= MOST_TERMS and all([is_term(term, many) for term in value])


def is_term(value, many):
    """Whether any value is a tuple of a word of so many letters and a NUMBER."""
    if not isinstance(value, tuple) or len(value) != 2:
        return False
    return are_letters_at(value[0], many) and is_number(value[1])
