"""Changes from one house to another one that differ but for the letters rows are told by [63], [64]."""
from tracewords.alike import alike_sums
from tracewords.errors import NotParted, TooMany
from tracewords.houses import check_alike_letters
from tracewords.leads import is_lead, leads
from tracewords.sums import parts
from tracewords.tables import determinant, idle, mixed, scaled

MOST_LEADS = 6


def change(house, other):
    """A change of the house to the other one; None if there is none."""
    check_alike_letters(house, other)
    if not parts(house) or not parts(other):
        raise NotParted()
    if not alike_sums(house, other):
        return None
    found = leads(house, other)
    if len(found) > MOST_LEADS:
        raise TooMany("leads", MOST_LEADS)
    return undone_sum(scaled(idle(house.width), 0), found)


def is_change(house, other, value):
    """Whether any value is a change of the house to the other one."""
    check_alike_letters(house, other)
    return house.width == other.width and is_lead(house, other, value) and determinant(value).sign != 0


def undone_sum(table, others):
    """The table and multiples of the others, added, so that it can be undone; None if no sum can.

    In the number of each of the others the determinant is a polynomial, of a degree that is at most the size: so if it
    is not 0 everywhere, it is not 0 at some of these numbers.
    """
    if len(others) == 0:
        return table if determinant(table).sign != 0 else None
    for number in list(range(1, len(table) + 1)) + [0]:
        found = undone_sum(mixed(table, others[0], number), others[1:])
        if found is not None:
            return found
    return None
