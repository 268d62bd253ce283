"""Rooms that a house keeps [7], [31] to [35]."""
from tracewords.errors import InvalidRoom, InvalidRows, NotCommuting
from tracewords.houses import check_house, leads_over, table_of_size
from tracewords.solved import are_rows_of, are_steps, is_made, kernel_of, steps_of
from tracewords.tables import about, led

MOST_ROWS = 40


def is_room(house, value):
    """Whether any value is a kept room of the house."""
    check_house(house)
    if not are_rows_of(value, house.width, house.width) or not are_steps(value):
        return False
    return first_out(house, value) is None


def led_out(house, rows):
    """The first tuple of a step's position and a letter that leads it out; None if there is none."""
    check_house(house)
    check_rows_of_size(house, rows)
    return first_out(house, steps_of(rows))


def least_room(house, rows):
    """The least kept room that holds the rows."""
    check_house(house)
    check_rows_of_size(house, rows)
    letters = house.letters()
    found = steps_of(rows)
    # Words shorter than the size are enough.
    for _ in range(house.width - 1):
        found = steps_of(found + [led(row, letter) for row in found for letter in letters])
    return found


def sum_room(house, room, other):
    """The sum of both rooms."""
    check_rooms(house, room, other)
    return steps_of([*room, *other])


def meet_room(house, room, other):
    """The meet of both rooms."""
    check_rooms(house, room, other)
    wide = house.width
    # A room is all that its kernel leads to 0, so both kernels lead to 0 just what both rooms hold.
    return kernel_of(kernel_of(room, wide) + kernel_of(other, wide), wide)


def noughts(house, table):
    """The room of the rows that the table leads to nought."""
    return kernel_of(about(commuting_table(house, table)), house.width)


def images(house, table):
    """The room of all that the table leads rows to."""
    return steps_of(commuting_table(house, table))


def first_out(house, found):
    """The first tuple of a position among these steps and a letter that leads the step out, or None."""
    letters = house.letters()
    for position, step in enumerate(found):
        for at, letter in enumerate(letters):
            if not is_made(found, led(step, letter)):
                return (position, at)
    return None


def check_rows_of_size(house, rows):
    """Raise InvalidRows unless it is a list of 0 to 40 rows of the house's size."""
    if not are_rows_of(rows, MOST_ROWS, house.width):
        raise InvalidRows(rows)


def check_rooms(house, room, other):
    """Raise InvalidHouse, or InvalidRoom with the first one that is no kept room of the house."""
    check_room(house, room)
    check_room(house, other)


def check_room(house, room):
    """Raise InvalidHouse, or InvalidRoom unless it is a kept room of the house."""
    if not is_room(house, room):
        raise InvalidRoom(room)


def commuting_table(house, table):
    """The told table; raises NotCommuting unless it commutes with all letters."""
    check_house(house)
    told = table_of_size(house, table)
    if not leads_over(house, house, told):
        raise NotCommuting()
    return told
