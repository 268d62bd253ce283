"""[7] Rooms, [31] to [35]."""
import random
import unittest

from tests.helper import (Odd, PackageTest, fractions, no_lists, no_numbers, plain_led, plain_steps, plain_word,
                          some_rows, spoiled, told, tupled, words_up_to)
from tests.test_houses import no_houses, some_letters
from tests.test_tables import bad_tables
from tracewords.errors import InvalidHouse, InvalidRoom, InvalidRows, InvalidTable, NotCommuting
from tracewords.houses import House
from tracewords.ratios import Ratio
from tracewords.rooms import images, is_room, least_room, led_out, meet_room, noughts, sum_room

SLOPE, DOUBLE = [[1, 1], [0, 1]], [[1, 0], [0, 2]]
BENT = House([SLOPE, DOUBLE])
LINE = House([DOUBLE])
CALM = House([[[1, 0, 0], [0, 1, 0], [0, 0, 1]]])
WHOLE = [[1, 0], [0, 1]]


def made(rows, row):
    """Whether the rows make this one, by Fractions."""
    return len(plain_steps(list(rows) + [row])) == len(plain_steps(rows))


def plain_kept(letters, rows):
    """Whether each letter leads each sum of multiples of the rows to such a sum."""
    return all(made(rows, plain_led(row, letter)) for row in rows for letter in letters)


def plain_out(letters, rows):
    """The first tuple of a step and a letter that leads it out."""
    found = plain_steps(rows)
    for at, step in enumerate(found):
        for place, letter in enumerate(letters):
            if not made(found, plain_led(step, letter)):
                return (at, place)
    return None


def plain_least(letters, rows):
    """The steps of all rows led by the words shorter than the size."""
    size = len(letters[0])
    words = words_up_to(len(letters), size - 1)
    return plain_steps([plain_led(row, plain_word(letters, word)) for row in rows for word in words])


def some_rooms(letters, source):
    """Some kept rooms of these letters."""
    size = len(letters[0])
    return [plain_least(letters, some_rows(source, many, size)) for many in (0, 1, 1, 2)]


def bad_rows(size):
    """Values that are no list of 0 to 40 rows of this size, 2 or 3."""
    good = [0] * size
    found = no_lists() + [[one] for one in no_lists()] + [[good, one] for one in no_lists()]
    found += [[[one] + good[1:]] for one in no_numbers()] + [[good, good[1:] + [one]] for one in no_numbers()]
    found += spoiled([good, good, good]) + spoiled((tuple(good), tuple(good)))
    return found + [[[]], [good + [0]], [good[1:]], [good, good + [0]], [good] * 41, (tuple(good),) * 41, [[good]]]


class IsRoomTest(PackageTest):
    def test_rooms(self):
        for house, value in [(BENT, [[0, 1]]), (BENT, []), (BENT, ()), (BENT, WHOLE), (BENT, tupled(WHOLE)),
                             (LINE, [[1, 0]]), (LINE, [(Ratio(0), 1)]), (CALM, [[1, 0, 5], [0, 1, Ratio(1, 2)]]),
                             (House([[[0]]]), [[1]]), (House([[[3]], [[4]], [[5]]]), [])]:
            self.gives(True, is_room, house=house, value=value)

    def test_not_kept(self):
        self.gives(False, is_room, house=BENT, value=[[1, 0]])
        self.gives(False, is_room, house=LINE, value=[[1, 1]])
        self.gives(False, is_room, house=House([WHOLE, [[0, 1], [1, 0]]]), value=[[1, 0]])

    def test_not_in_steps(self):
        for value in [[[0, 2]], [[0, 0]], [[0, 1], [0, 1]], [[0, 1], [1, 0]], [[1, 1], [0, 1]], [[0, 1], [0, 0]],
                      [[-1, 0], [0, 1]], [[1, 0], [0, 1], [0, 0]]]:
            self.gives(False, is_room, house=BENT, value=value)

    def test_of_another_size(self):
        for value in [[[1]], [[0, 1, 0]], [[0, 1], [1]], [[]]]:
            self.gives(False, is_room, house=BENT, value=value)

    def test_values_of_every_kind(self):
        for value in bad_rows(2) + [[1], [[0, True]], [[False, 1]], Odd(), [WHOLE]]:
            self.same(is_room(BENT, value), False)
            self.same(is_room(house=BENT, value=value), False)

    def test_by_the_words_of_the_document(self):
        source = random.Random(31)
        seen = {True: 0, False: 0}
        for letters in some_letters(31, 6):
            rows = plain_steps(some_rows(source, source.choice([1, 2, 3]), len(letters[0])))
            wanted = plain_kept(letters, rows)
            seen[wanted] += 1
            self.same(is_room(House(letters), told(rows)), wanted)
            self.same(is_room(House(letters), []), True)
        self.assertGreater(min(seen.values()), 10)


class LedOutTest(PackageTest):
    def test_ordinary(self):
        self.gives((0, 0), led_out, house=BENT, rows=[[1, 0]])
        self.gives(None, led_out, house=BENT, rows=[[0, 2]])
        self.gives((0, 1), led_out, house=House([WHOLE, SLOPE]), rows=((3, 0),))

    def test_nought_and_the_whole_room(self):
        self.gives(None, led_out, house=BENT, rows=[])
        self.gives(None, led_out, house=BENT, rows=())
        self.gives(None, led_out, house=BENT, rows=[[0, 0]])
        self.gives(None, led_out, house=BENT, rows=[[1, 1], [1, 2]])
        self.gives(None, led_out, house=BENT, rows=[[1, 0]] * 39 + [[0, 1]])

    def test_the_position_is_among_the_steps(self):
        house = House([[[1, 0, 0], [0, 0, 1], [0, 1, 0]]])
        self.gives((1, 0), led_out, house=house, rows=[[0, 1, 0], [1, 0, 0]])
        self.gives((1, 0), led_out, house=house, rows=[[1, 0, 0], [1, 0, 0], [2, 0, 0], [0, 1, 0]])

    def test_steps_stand_ahead_of_letters(self):
        first = [[1, 0, 0], [0, 0, 1], [0, 1, 0]]
        second = [[0, 0, 1], [0, 1, 0], [1, 0, 0]]
        self.gives((0, 1), led_out, house=House([first, second]), rows=[[1, 0, 0], [0, 1, 0]])
        self.gives((0, 0), led_out, house=House([second, first]), rows=[[1, 0, 0], [0, 1, 0]])
        self.gives((0, 2), led_out, house=House([CALM.letters()[0], CALM.letters()[0], second]), rows=[[1, 0, 0]])

    def test_twice_or_in_another_sequence(self):
        house = House([[[1, 0, 0], [0, 0, 1], [0, 1, 0]]])
        for rows in [[[1, 1, 0], [0, 1, 0]], [[0, 1, 0], [1, 1, 0]], [[0, 1, 0], [0, 1, 0], [1, 1, 0], [1, 1, 0]]]:
            self.gives((1, 0), led_out, house=house, rows=rows)

    def test_by_the_words_of_the_document(self):
        source = random.Random(32)
        for letters in some_letters(32, 4):
            rows = some_rows(source, source.choice([0, 1, 2, 4]), len(letters[0]))
            self.gives(plain_out(letters, rows), led_out, house=House(letters), rows=rows)


class LeastRoomTest(PackageTest):
    def test_ordinary(self):
        self.gives(told(WHOLE), least_room, house=BENT, rows=[[1, 0]])
        self.gives(told([[0, 1]]), least_room, house=BENT, rows=[[0, 3]])
        self.gives(told([[1, 5, 0]]), least_room, house=CALM, rows=((Ratio(1, 5), 1, 0),))

    def test_nought_and_the_whole_room(self):
        self.gives([], least_room, house=BENT, rows=[])
        self.gives([], least_room, house=BENT, rows=((0, 0), (0, 0)))
        self.gives(told(WHOLE), least_room, house=LINE, rows=[[1, 0], [0, 1], [1, 1]])
        self.gives(told([[1]]), least_room, house=House([[[0]]]), rows=[[7]] * 40)
        self.gives([], least_room, house=House([[[2]]]), rows=[[0]])

    def test_a_long_way(self):
        chain = House([[[0, 1, 0, 0], [0, 0, 1, 0], [0, 0, 0, 1], [0, 0, 0, 0]]])
        self.same(len(least_room(chain, [[1, 0, 0, 0]])), 4)
        self.gives(told([[0, 0, 1, 0], [0, 0, 0, 1]]), least_room, house=chain, rows=[[0, 0, 3, 1]])

    def test_by_the_words_of_the_document(self):
        source = random.Random(33)
        for letters in some_letters(33, 3):
            house = House(letters)
            rows = some_rows(source, source.choice([0, 1, 2]), house.width)
            found = least_room(house, rows)
            self.gives(told(plain_least(letters, rows)), least_room, house=house, rows=rows)
            self.same(is_room(house, found), True)
            self.gives(found, least_room, house=house, rows=rows[::-1] + rows)


class SumAndMeetTest(PackageTest):
    def test_ordinary(self):
        self.gives(told(WHOLE), sum_room, house=LINE, room=[[1, 0]], other=[[0, 1]])
        self.gives([], meet_room, house=LINE, room=[[1, 0]], other=[[0, 1]])
        self.gives(told([[1, 0, 0], [0, 1, 0], [0, 0, 1]]), sum_room, house=CALM, room=[[1, 0, 0], [0, 1, 0]],
                   other=((0, 1, 0), (0, 0, 1)))
        self.gives(told([[0, 1, 0]]), meet_room, house=CALM, room=[[1, 0, 0], [0, 1, 0]], other=((0, 1, 0), (0, 0, 1)))
        self.gives(told([[1, 1, 2]]), meet_room, house=CALM, room=[[1, 0, 1], [0, 1, 1]],
                   other=[[1, 0, Ratio(3, 2)], [0, 1, Ratio(1, 2)]])

    def test_nought_and_the_whole_room(self):
        self.gives(told([[0, 1]]), sum_room, house=BENT, room=[[0, 1]], other=[])
        self.gives([], meet_room, house=BENT, room=(), other=[[0, 1]])
        self.gives([], sum_room, house=BENT, room=[], other=())
        self.gives([], meet_room, house=BENT, room=[], other=[])
        self.gives(told([[0, 1]]), meet_room, house=BENT, room=WHOLE, other=[[0, 1]])
        self.gives(told(WHOLE), meet_room, house=BENT, room=WHOLE, other=tupled(WHOLE))
        self.gives(told(WHOLE), sum_room, house=BENT, room=WHOLE, other=[[0, 1]])

    def test_any(self):
        source = random.Random(34)
        for letters in some_letters(34, 2):
            house = House(letters)
            rooms = some_rooms(letters, source)
            for mine in rooms:
                for other in rooms:
                    both = sum_room(house, told(mine), told(other))
                    meet = meet_room(house, told(mine), told(other))
                    self.same(both, told(plain_steps(mine + other)))
                    self.assertEqual(len(both) + len(meet), len(mine) + len(other))
                    self.same(is_room(house, both), True)
                    self.same(is_room(house, meet), True)
                    for row in fractions(meet):
                        self.assertTrue(made(mine, row) and made(other, row))

    def test_wrong_rooms(self):
        for value in bad_rows(2) + [[[1, 0]], [[0, 2]], [[0, 1], [0, 1]], [[0, 0]], [[0, 1], [1, 0]], [[0, True]]]:
            for call in [sum_room, meet_room]:
                self.fails_both(InvalidRoom, {"value": value}, call, house=BENT, room=value, other=[])
                self.fails_both(InvalidRoom, {"value": value}, call, house=BENT, room=[], other=value)


class NoughtsAndImagesTest(PackageTest):
    def test_ordinary(self):
        shift = House([[[0, 1], [0, 0]]])
        self.gives(told([[0, 1]]), noughts, house=shift, table=[[0, 1], [0, 0]])
        self.gives(told([[0, 1]]), images, house=shift, table=((0, 2), (0, 0)))
        self.gives(told([[0, 1]]), noughts, house=LINE, table=[[5, 0], [0, 0]])
        self.gives(told([[1, 0]]), images, house=LINE, table=[[5, 0], [0, 0]])
        self.gives(told([[1, -1, 0], [0, 0, 1]]), noughts, house=CALM, table=[[1, 2, 3], [1, 2, 3], [0, 0, 0]])
        self.gives(told([[1, 2, 3]]), images, house=CALM, table=[[1, 2, 3], [1, 2, 3], [0, 0, 0]])

    def test_nought_and_idle(self):
        for house in [BENT, LINE]:
            self.gives(told(WHOLE), noughts, house=house, table=[[0, 0], [0, 0]])
            self.gives([], images, house=house, table=[[0, 0], [0, 0]])
            self.gives([], noughts, house=house, table=WHOLE)
            self.gives(told(WHOLE), images, house=house, table=[[Ratio(-1, 3), 0], [0, Ratio(-1, 3)]])
        self.gives([], noughts, house=House([[[7]]]), table=[[2]])
        self.gives(told([[1]]), noughts, house=House([[[7]]]), table=((0,),))

    def test_powers_of_a_letter_commute_with_it(self):
        for letters in some_letters(35, 4):
            house = House(letters[:1])
            for table in [house.table([0]), house.table([0, 0])]:
                lost, found = noughts(house, table), images(house, table)
                self.same(found, told(plain_steps(table)))
                self.assertEqual(len(lost) + len(found), house.width)
                self.same((is_room(house, lost), is_room(house, found)), (True, True))
                for row in lost:
                    self.assertEqual(plain_led(row, table), [0] * house.width)

    def test_not_commuting(self):
        for call in [noughts, images]:
            self.fails_both(NotCommuting, {}, call, house=BENT, table=[[1, 0], [0, 0]])
            self.fails_both(NotCommuting, {}, call, house=BENT, table=[[0, 1], [0, 0]])
            self.fails_both(NotCommuting, {}, call, house=House([WHOLE, WHOLE, SLOPE]), table=((0, 0), (1, 0)))

    def test_wrong_tables(self):
        for value in bad_tables() + [[[1]], [[0, 0, 0]] * 3]:
            for call in [noughts, images]:
                self.fails_both(InvalidTable, {"value": value}, call, house=BENT, table=value)


class RoomErrorsTest(PackageTest):
    def test_wrong_houses(self):
        for value in no_houses():
            self.fails_both(InvalidHouse, {"value": value}, is_room, house=value, value=[])
            for call in [led_out, least_room]:
                self.fails_both(InvalidHouse, {"value": value}, call, house=value, rows=[])
            for call in [sum_room, meet_room]:
                self.fails_both(InvalidHouse, {"value": value}, call, house=value, room=[], other=[])
            for call in [noughts, images]:
                self.fails_both(InvalidHouse, {"value": value}, call, house=value, table=WHOLE)

    def test_wrong_rows(self):
        for size, house in [(2, BENT), (3, CALM)]:
            for value in bad_rows(size):
                for call in [led_out, least_room]:
                    self.fails_both(InvalidRows, {"value": value}, call, house=house, rows=value)

    def test_first_error(self):
        self.fails(InvalidHouse, {"value": "h"}, led_out, rows="r", house="h")
        self.fails(InvalidHouse, {"value": "h"}, sum_room, "h", "r", "o")
        self.fails(InvalidRoom, {"value": "r"}, sum_room, BENT, "r", "o")
        self.fails(InvalidRoom, {"value": [[1, 0]]}, meet_room, BENT, [[1, 0]], [[0, 2]])
        self.fails(InvalidTable, {"value": [[1, 0]]}, noughts, BENT, [[1, 0]])


if __name__ == "__main__":
    unittest.main()
