"""Tables that lead from one house to another, that commute with a house, and a house's middle [41] to [43]."""
from tracewords.errors import UnlikeSizes
from tracewords.houses import check_alike_letters, check_house, leads_over
from tracewords.lots import lot_rows
from tracewords.ratios import Ratio
from tracewords.solved import kernel_of
from tracewords.tables import from_long, is_table, long_row


def commuting(house):
    """The list of the tables of which all that commute with the house are made."""
    return leads(house, house)


def is_commuting(house, value):
    """Whether any value is a table that commutes with the house."""
    return is_lead(house, house, value)


def leads(house, other):
    """The list of the tables of which all leads from the house to the other one are made."""
    check_alike(house, other)
    return tables_of(kernel_of(lead_rows(house, other), house.width * house.width))


def is_lead(house, other, value):
    """Whether any value is a lead from the house to the other one."""
    check_alike(house, other)
    return is_table(value) and len(value) == house.width and leads_over(house, other, value)


def middle(house):
    """The list of the tables of which all those of the lot are made that commute with the house."""
    check_house(house)
    wide = house.width * house.width
    # The lot is all that its kernel leads to 0.
    return tables_of(kernel_of(kernel_of(lot_rows(house), wide) + lead_rows(house, house), wide))


def check_alike(house, other):
    """Raise what is raised of two houses unless they have as many letters and one size."""
    check_alike_letters(house, other)
    if house.width != other.width:
        raise UnlikeSizes()


def lead_rows(house, other):
    """Rows that lead a table's long row to noughts exactly if it is a lead."""
    places = [(at, place) for at in range(house.width) for place in range(house.width)]
    pairs = list(zip(house.letters(), other.letters()))
    return [lead_row(mine, its, at, place) for mine, its in pairs for at, place in places]


def lead_row(letter, its, at, place):
    """What leads the long row of a table T to the number at this place of letter T - T its."""
    size = len(letter)
    found = [[Ratio(0) for _ in range(size)] for _ in range(size)]
    for between in range(size):
        found[between][place] = found[between][place] + letter[at][between]
        found[at][between] = found[at][between] - its[between][place]
    return long_row(found)


def tables_of(rows):
    """The tables of these long rows."""
    return [from_long(row) for row in rows]
