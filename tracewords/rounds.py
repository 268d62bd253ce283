"""Rules that the sums of any tables keep: round sums, standard tables, power sums, line numbers [81] to [84]."""
from tracewords.basics import is_count
from tracewords.errors import InvalidMany, InvalidTables
from tracewords.ratios import Ratio
from tracewords.solved import led_to
from tracewords.tables import are_tables, idle, mixed, scaled, sum_on, times, told_table

MOST_ROUND = 5
MOST_STANDARD = 6
HIGHEST_POWER = 12


def round_sum(tables):
    """The round sum of the tables."""
    return round_sum_of(told_tables(tables, MOST_ROUND))


def standard(tables):
    """The standard table of the tables."""
    told = told_tables(tables, MOST_STANDARD)
    # At a number stands the standard table of the tables at whose positions it has a bit; more of them stand behind.
    found = [idle(len(told[0]))]
    for chosen in range(1, 1 << len(told)):
        found.append(standard_of(told, found, chosen))
    return found[-1]


def power_sums(table, many):
    """The list of the sums of the table's powers, from the power 0 on."""
    power = told_table(table)
    if not is_count(many) or many > HIGHEST_POWER:
        raise InvalidMany(many)
    found = [Ratio(len(table))]
    for _ in range(many):
        found.append(sum_on(power))
        power = times(power, table)
    return found


def line_numbers(table):
    """The list of the table's line numbers."""
    told = told_table(table)
    sums = power_sums(told, len(told))
    # The numbers from the last one on, each told by those behind it and the power sums (Newton).
    found = [Ratio(1)]
    for many in range(1, len(told) + 1):
        found.append(-led_to(found, sums[many:0:-1]).over(many))
    return found[::-1]


def round_sum_of(tables):
    """The round sum of told tables.

    In a rearrangement the last position is a round alone, or it stands in some round behind one of the others:
    then this round's sum is as if both were one table, and the sign is turned.
    """
    *ahead, last = tables
    if len(ahead) == 0:
        return sum_on(last)
    found = sum_on(last) * round_sum_of(ahead)
    for at, table in enumerate(ahead):
        found = found - round_sum_of(ahead[:at] + [times(table, last)] + ahead[at + 1:])
    return found


def standard_of(tables, found, chosen):
    """The standard table of the chosen tables, by those with one table less: each table in turn stands first."""
    total = scaled(tables[0], 0)
    sign = 1
    for at, table in enumerate(tables):
        if (chosen >> at) & 1 == 1:
            total = mixed(total, times(table, found[chosen - (1 << at)]), sign)
            # To stand first, a table is exchanged with each chosen one ahead of it.
            sign = -sign
    return total


def told_tables(value, most):
    """The told tables; raises InvalidTables unless it is a list of at least one, at most so many, of one size."""
    if not are_tables(value, most):
        raise InvalidTables(value)
    return [told_table(table) for table in value]
