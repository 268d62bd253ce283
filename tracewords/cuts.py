"""The house cut to a kept room, and that of the room's rest [36]; sums split into both [37]."""
from tracewords.errors import InvalidWord, NoughtRoom, WholeRoom
from tracewords.houses import House, is_word
from tracewords.ratios import Ratio
from tracewords.rooms import check_room
from tracewords.solved import head, whole_row
from tracewords.tables import led


def cut(house, room):
    """The house cut to the room."""
    check_room(house, room)
    if len(room) == 0:
        raise NoughtRoom()
    return House([cut_letter(letter, room) for letter in house.letters()])


def rest_house(house, room):
    """The house of the room's rest."""
    check_room(house, room)
    if len(room) == house.width:
        raise WholeRoom()
    return House([rest_letter(letter, room) for letter in house.letters()])


def split_sums(house, room, word):
    """A tuple of the sum of the word by the cut house and that by the rest."""
    check_room(house, room)
    if not is_word(house, word):
        raise InvalidWord(word)
    within = cut(house, room).word_sum(word) if len(room) > 0 else Ratio(0)
    beside = rest_house(house, room).word_sum(word) if len(room) < house.width else Ratio(0)
    return (within, beside)


def cut_letter(letter, room):
    """The letter's table in the cut house."""
    places = heads(room)
    # Above and below a head stand only noughts, so a row's numbers there tell how often it takes each step.
    return [numbers_at(led(step, letter), places) for step in room]


def rest_letter(letter, room):
    """The letter's table in the house of the rest."""
    taken = heads(room)
    left = [place for place in range(len(letter)) if place not in taken]
    return [numbers_at(less_steps(letter[place], room), left) for place in left]


def less_steps(row, room):
    """The row, less the sum of multiples of the steps that has the same numbers at their heads."""
    found = row
    for at, step in zip(heads(room), room):
        by = row[at]
        found = [mine - by * its for mine, its in zip(found, step)]
    return found


def heads(room):
    """The places at which the steps of a room begin."""
    return [head(whole_row(step)) for step in room]


def numbers_at(row, places):
    """The numbers of a row at these places."""
    return [row[at] for at in places]
