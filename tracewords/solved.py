"""Rows of numbers: their steps, their kernel, solutions [12], [13].

Steps are looked for among whole rows: lists of INTEGERS without a common part, each in the place
of all its multiples. That takes far less time than fractions do, and keeps the numbers small.
"""
from math import gcd, lcm

from tracewords.basics import is_count, is_list
from tracewords.errors import InvalidGoals, InvalidMany, InvalidRows
from tracewords.ratios import Ratio, are_numbers, ratio_of, ratio_row

MOST = 60


def steps(rows):
    """The steps of the rows, a list of lists of Ratios."""
    check_rows(rows)
    return steps_of(rows)


def kernel(rows, wide):
    """The kernel of the rows, of this width, a list in steps."""
    check_rows(rows)
    if not is_count(wide) or not 1 <= wide <= MOST:
        raise InvalidMany(wide)
    if not are_rows_of(rows, MOST, wide):
        raise InvalidRows(rows)
    return kernel_of(rows, wide)


def solution(rows, goals):
    """A list that each row leads to its goal; None if there is none."""
    check_goals(rows, goals)
    return solution_of(rows, goals)


def is_solution(rows, goals, value):
    """Whether any value is a list that each row leads to its goal."""
    check_goals(rows, goals)
    if not is_row_of(value, len(rows[0])):
        return False
    return all([led_to(row, value) == ratio_of(goal) for row, goal in zip(rows, goals)])


def check_rows(rows):
    """Raise InvalidRows unless these are rows [12]."""
    wide = 1
    if is_list(rows) and len(rows) > 0 and is_list(rows[0]):
        wide = len(rows[0])
    if not 1 <= wide <= MOST or not are_rows_of(rows, MOST, wide):
        raise InvalidRows(rows)


def check_goals(rows, goals):
    """Raise what `solution` raises of these."""
    check_rows(rows)
    if len(rows) == 0:
        raise InvalidRows(rows)
    if not is_row_of(goals, len(rows)):
        raise InvalidGoals(goals)


def is_row_of(value, wide):
    """Whether any value is a list of so many NUMBERS."""
    return are_numbers(value) and len(value) == wide


def are_rows_of(value, most, wide):
    """Whether any value is a list of at most so many lists of so many NUMBERS."""
    return is_list(value) and len(value) <= most and all([is_row_of(row, wide) for row in value])


def led_to(row, other):
    """The number to which the one list leads the other one."""
    return Ratio.total([ratio_of(mine) * its for mine, its in zip(row, other)])


def numbers_led(row, others):
    """The numbers to which these lists lead the row."""
    return [led_to(row, other) for other in others]


def steps_of(rows):
    """The steps of rows of NUMBERS, alike long."""
    return [told_step(step) for step in whole_steps(rows)]


def kernel_of(rows, wide):
    """The kernel of rows of NUMBERS of this width."""
    return steps_of(kernel_rows(rows, wide))


def kernel_rows(rows, wide):
    """Free lists that make the kernel; each one has its last number other than 0 further right than the one ahead."""
    whole = whole_steps(rows)
    heads = [head(step) for step in whole]
    return [kernel_row(whole, place, wide) for place in range(wide) if place not in heads]


def kernel_row(whole, place, wide):
    """What these steps lead to 0, with 1 at the place and 0 at all others that are no heads."""
    found = [Ratio(0) for _ in range(wide)]
    found[place] = Ratio(1)
    for step in whole:
        at = head(step)
        found[at] = Ratio(-step[place], step[at])
    return found


def solution_of(rows, goals):
    """A list that each of these rows, at least one, leads to its goal; None if there is none."""
    wide = len(rows[0])
    found = [Ratio(0) for _ in range(wide)]
    for step in whole_steps([[*row, goal] for row, goal in zip(rows, goals)]):
        place = head(step)
        if place == wide:
            # Multiples of the rows add up to noughts, but those of their goals do not.
            return None
        found[place] = Ratio(step[wide], step[place])
    return found


def are_steps(rows):
    """Whether rows of NUMBERS, alike long, stand in steps."""
    return steps_of(rows) == [ratio_row(row) for row in rows]


def is_made(rows, row):
    """Whether the row is made of these rows, which stand in steps."""
    return is_nought(left_over([whole_row(step) for step in rows], whole_row(row)))


def whole_steps(rows):
    """The steps of rows of NUMBERS, as whole rows."""
    found = []
    for row in rows:
        found = steps_with(found, row)
    return found


def steps_with(whole, row):
    """The steps, as whole rows, of the whole rows of steps and one row more; no more if they make it."""
    left = left_over(whole, whole_row(row))
    if is_nought(left):
        return whole
    place = head(left)
    cleared = [without(step, left, place) for step in whole]
    ahead = [step for step in cleared if head(step) < place]
    behind = [step for step in cleared if head(step) > place]
    return ahead + [left] + behind


def left_over(whole, row):
    """A multiple of the row, less what takes away its numbers where the steps have their heads."""
    left = row
    for step in whole:
        left = without(left, step, head(step))
    return left


def without(row, other, place):
    """A multiple of the row, less what of the other one takes away its number at the place."""
    if row[place] == 0:
        return row
    return lowest([other[place] * mine - row[place] * its for mine, its in zip(row, other)])


def head(whole):
    """The place of a whole row's first number that is not 0; its length if there is none."""
    for place, number in enumerate(whole):
        if number != 0:
            return place
    return len(whole)


def is_nought(whole):
    """Whether a whole row is all noughts."""
    return head(whole) == len(whole)


def told_step(whole):
    """The multiple of a whole row whose head is 1."""
    first = whole[head(whole)]
    return [Ratio(number, first) for number in whole]


def whole_row(row):
    """The row, times what makes its numbers INTEGERS without a common part."""
    told = ratio_row(row)
    common = 1
    for number in told:
        common = lcm(common, number.bottom)
    return lowest([number.top * (common // number.bottom) for number in told])


def lowest(row):
    """The INTEGERS, divided by all that they have in common."""
    common = 0
    for number in row:
        common = gcd(common, number)
        if common == 1:
            return row
    if common == 0:
        return row
    return [number // common for number in row]
