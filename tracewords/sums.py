"""The table of sums, its rank, and what it tells of a house [51], [53], [55]."""
from tracewords.errors import NotParted
from tracewords.leads import commuting, middle
from tracewords.lots import base_pairs
from tracewords.solved import numbers_led, whole_steps
from tracewords.tables import about, from_long, long_row


def sums_table(house):
    """The table of sums, a list of lists of Ratios."""
    return sums_of([row for _, row in base_pairs(house)])


def sums_of(rows):
    """The sums of the products, two by two, of the tables of these long rows."""
    # The sum of a product is what the one table's long row leads that of the other one, turned about, to.
    turned = [long_row(about(from_long(row))) for row in rows]
    return [numbers_led(row, turned) for row in rows]


def sums_rank(house):
    """How many rows of the table of sums are free."""
    return len(whole_steps(sums_table(house)))


def parts(house):
    """Whether the house parts."""
    found = sums_table(house)
    return len(whole_steps(found)) == len(found)


def counts(house):
    """The tuple of the dimension and of how many tables tell what commutes, and the middle."""
    found = sums_table(house)
    if len(whole_steps(found)) < len(found):
        raise NotParted()
    return (len(found), len(commuting(house)), len(middle(house)))
