"""What a desk keeps after its deeds [97], [98]."""
from tracewords.changes import change
from tracewords.cuts import cut, rest_house
from tracewords.errors import InvalidPlace, InvalidRow, InvalidRows, NoneThere
from tracewords.houses import House, about_house, led_house, side
from tracewords.nil import nil_room
from tracewords.partners import onto, partner
from tracewords.rooms import images, least_room, meet_room, noughts, sum_room
from tracewords.shelves import with_claim, with_thing, without_claim, without_thing
from tracewords.tables import about, idle, mixed, scaled, times, told_table, undone

HOUSES = ("house", "turned", "side", "led", "cut", "rest")
ROWS = ("rows", "room", "nilroom", "sum", "meet", "noughts", "images", "partner")


def shelf_after(shelf, word, values, parts):
    """The shelf after the deed of this word, what stands behind it, and that with things in the place of names."""
    first = values[0]
    match word:
        case "drop":
            return without_thing(shelf, first)
        case "claim":
            return with_claim(shelf, first, values[1:], tuple(parts[1:]))
        case "forget":
            return without_claim(shelf, first)
        case "entry":
            return with_thing(shelf, first, "TABLE", table_with(*parts))
        case "put":
            return with_thing(shelf, first, "HOUSE", house_with(*parts))
        case "row":
            return with_thing(shelf, first, "ROWS", rows_with(*parts))
    kind, thing = made(word, parts[1:])
    return with_thing(shelf, first, kind, thing)


def made(word, parts):
    """The tuple of the kind and the thing that a deed keeps under a new name."""
    if word in HOUSES:
        return ("HOUSE", made_house(word, parts))
    if word in ROWS:
        return ("ROWS", made_rows(word, parts))
    return ("TABLE", made_table(word, parts))


def made_table(word, parts):
    """The table that a deed makes of these parts."""
    match word:
        case "table":
            return told_table(parts)
        case "idle":
            return idle(*parts)
        case "times":
            return times(*parts)
        case "mixed":
            return mixed(*parts)
        case "scaled":
            return scaled(*parts)
        case "undone":
            return undone(*parts)
        case "about":
            return about(*parts)
        case "word":
            return parts[0].table(parts[1])
        case "change":
            return one_there(change(*parts))
    return one_there(onto(*parts))


def made_house(word, parts):
    """The House that a deed makes of these parts."""
    match word:
        case "house":
            return House(parts)
        case "turned":
            return about_house(*parts)
        case "side":
            return side(*parts)
        case "led":
            return led_house(*parts)
        case "cut":
            return cut(*parts)
    return rest_house(*parts)


def made_rows(word, parts):
    """The list of rows that a deed makes of these parts."""
    match word:
        case "rows":
            return alike_long(parts)
        case "room":
            return least_room(*parts)
        case "nilroom":
            return nil_room(*parts)
        case "sum":
            return sum_room(*parts)
        case "meet":
            return meet_room(*parts)
        case "noughts":
            return noughts(*parts)
        case "images":
            return images(*parts)
    return one_there(partner(*parts))


def one_there(found):
    """What was found; raises NoneThere if that is None."""
    if found is None:
        raise NoneThere()
    return found


def alike_long(rows):
    """The rows; raises InvalidRows unless they are alike long."""
    if not all([len(row) == len(rows[0]) for row in rows]):
        raise InvalidRows(rows)
    return rows


def table_with(table, at, place, number):
    """The table with this number at the row and the place."""
    for one in (at, place):
        check_place(table, one)
    return replaced(table, at, replaced(table[at], place, number))


def house_with(house, at, table):
    """The House with this letter at the position."""
    letters = house.letters()
    check_place(letters, at)
    return House(replaced(letters, at, table))


def rows_with(rows, at, row):
    """The list with this row at the position."""
    check_place(rows, at)
    if len(row) != len(rows[at]):
        raise InvalidRow(row)
    return replaced(rows, at, row)


def check_place(found, at):
    """Raise InvalidPlace unless the place is one of the list."""
    if at >= len(found):
        raise InvalidPlace(at)


def replaced(found, at, one):
    """The list with another thing at the place."""
    return found[:at] + [one] + found[at + 1:]
