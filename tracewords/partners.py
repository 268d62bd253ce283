"""Partners of kept rooms, and the tables onto a room that tell them [44], [45]."""
from tracewords.houses import leads_over
from tracewords.leads import lead_rows
from tracewords.ratios import Ratio, ratio_row
from tracewords.rooms import check_room, is_room, noughts
from tracewords.solved import is_made, kernel_of, solution_of, steps_of
from tracewords.tables import from_long, is_table, led


def partner(house, room):
    """A partner of the room; None if there is none."""
    found = onto(house, room)
    if found is None:
        return None
    return noughts(house, found)


def is_partner(house, room, value):
    """Whether any value is a partner of the room."""
    check_room(house, room)
    if not is_room(house, value) or len(room) + len(value) != house.width:
        return False
    # As many rows together as the size: then nothing but nought is in both.
    return len(steps_of([*room, *value])) == house.width


def onto(house, room):
    """A table onto the room; None if there is none."""
    check_room(house, room)
    wide = house.width
    commute = lead_rows(house, house)
    within = [long_with(wide, at, row) for row in kernel_of(room, wide) for at in range(wide)]
    fixed = [column_led(wide, step, place) for step in room for place in range(wide)]
    goals = [Ratio(0) for _ in commute + within] + [number for step in room for number in step]
    found = solution_of(commute + within + fixed, goals)
    if found is None:
        return None
    return from_long(found)


def is_onto(house, room, value):
    """Whether any value is a table onto the room."""
    check_room(house, room)
    if not is_table(value) or len(value) != house.width or not leads_over(house, house, value):
        return False
    stay = all([led(step, value) == ratio_row(step) for step in room])
    # The rows of the table are what the rows of the idle one are led to.
    return stay and all([is_made(room, row) for row in value])


def long_with(wide, at, row):
    """A long row with this row at a place, which leads a table's long row to what the row leads its row there to."""
    nought = [Ratio(0) for _ in row]
    rows = [row if place == at else nought for place in range(wide)]
    return [number for one in rows for number in one]


def column_led(wide, row, place):
    """What leads a table's long row to the number at the place of the row, led by the table."""
    return [number if at == place else Ratio(0) for number in row for at in range(wide)]
