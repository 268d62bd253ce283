"""[44] Onto a room, [45] Partners."""
import random
import unittest

from tests.helper import (Odd, PackageTest, edge_letters, fractions, plain_idle, plain_kernel, plain_led, plain_rank,
                          plain_steps, plain_times, some_cornered, some_rows, told, tupled, whole_room)
from tests.test_cuts import bad_rooms
from tests.test_houses import no_houses, some_letters
from tests.test_leads import plain_is_lead
from tests.test_rooms import bad_rows, plain_kept, some_rooms
from tests.test_tables import bad_tables
from tracewords.errors import InvalidHouse, InvalidRoom
from tracewords.houses import House
from tracewords.partners import is_onto, is_partner, onto, partner
from tracewords.ratios import Ratio

LINE, SHIFT, CALM = House([[[1, 0], [0, 2]]]), House([[[1, 1], [0, 1]]]), House([[[1, 0], [0, 1]]])
BENT = House([[[1, 1], [0, 1]], [[1, 0], [0, 2]]])
WHOLE = [[1, 0], [0, 1]]


def some_kept(seed):
    """Tuples of letters and a room that they keep."""
    found = some_cornered(seed, 3) + some_cornered(seed + 1, 2, beside=True)
    source = random.Random(seed)
    for letters in edge_letters() + some_letters(seed, 1):
        found += [(letters, room) for room in some_rooms(letters, source)]
    return found


def has_partner(letters, room):
    """Whether the room has a partner, by other equations than those of [44].

    A partner has a row for each place left by the steps' heads: the idle table's row, and a sum of multiples M of the
    steps. Led by a letter it has the numbers A at the places left, so it must be A times such rows: B + M C is A M,
    where B and C are the numbers at the heads that the letter leads idle rows and steps to.
    """
    heads = [[number != 0 for number in step].index(True) for step in room]
    left = [place for place in range(len(letters[0])) if place not in heads]
    columns, goals = [], []
    for letter in letters:
        idle_led = [plain_led(plain_idle(len(letter))[place], letter) for place in left]
        low = [[row[at] for at in heads] for row in idle_led]
        beside = [[row[at] - sum(number * step[at] for number, step in zip(numbers, room)) for at in left]
                  for row, numbers in zip(idle_led, low)]
        small = [[plain_led(step, letter)[at] for at in heads] for step in room]
        for i in range(len(left)):
            for j in range(len(room)):
                goals.append(-low[i][j])
                columns.append([(small[q][j] if p == i else 0) - (beside[i][p] if q == j else 0)
                                for p in range(len(left)) for q in range(len(room))])
    return plain_rank(columns) == plain_rank([row + [goal] for row, goal in zip(columns, goals)])


def plain_is_partner(letters, room, value):
    """Whether a list in steps is a partner: kept, nothing in common, as many rows as the size."""
    both = fractions(room) + fractions(value)
    return plain_kept(letters, fractions(value)) and len(both) == len(letters[0]) == plain_rank(both)


def plain_is_onto(letters, room, table):
    """Whether the table commutes, leads each row of the room to itself and each row into the room."""
    room, table = fractions(room), fractions(table)
    stays = all(plain_led(row, table) == row for row in room)
    return stays and plain_is_lead(letters, letters, table) and plain_rank(room + table) == len(room)


class PartnerTest(PackageTest):
    def test_ordinary(self):
        self.gives(told([[0, 1]]), partner, house=LINE, room=[[1, 0]])
        self.gives(told([[1, 0]]), partner, house=LINE, room=((0, Ratio(1)),))
        blocks = House([[[1, 2, 0], [3, 4, 0], [0, 0, 5]]])
        self.gives(told([[0, 0, 1]]), partner, house=blocks, room=[[1, 0, 0], [0, 1, 0]])

    def test_no_partner(self):
        self.gives(None, partner, house=SHIFT, room=[[0, 1]])
        self.gives(None, partner, house=BENT, room=[[0, 1]])
        chain = House([[[0, 1, 0, 0], [0, 0, 1, 0], [0, 0, 0, 1], [0, 0, 0, 0]]])
        for many in (1, 2, 3):
            self.gives(None, partner, house=chain, room=whole_room(4)[4 - many:])

    def test_many_partners(self):
        found = partner(CALM, [[0, 1]])
        self.assertEqual((len(found), found[0][0]), (1, Ratio(1)))
        self.gives(found, partner, house=CALM, room=[[0, 1]])
        for number in [0, 1, 9, -3, Ratio(1, 2)]:
            self.gives(True, is_partner, house=CALM, room=[[0, 1]], value=[[1, number]])

    def test_nought_and_the_whole_room(self):
        for letters in edge_letters():
            house, whole = House(letters), whole_room(len(letters[0]))
            self.gives(told(whole), partner, house=house, room=[])
            self.gives([], partner, house=house, room=whole)
            self.gives(told(whole), partner, house=house, room=())
            self.gives([], partner, house=house, room=tupled(whole))

    def test_by_the_words_of_the_document(self):
        seen = {True: 0, False: 0}
        for letters, room in some_kept(441):
            house = House(told(letters))
            found = partner(house, told(room))
            wanted = not room or has_partner(letters, fractions(room))
            if 0 < len(room) < len(letters[0]):
                seen[wanted] += 1
            self.assertEqual(found is not None, wanted)
            self.gives(found, partner, house=house, room=told(room))
            if wanted:
                self.same(found, told(plain_steps(found)))
                self.assertTrue(plain_is_partner(letters, room, found))
                self.gives(True, is_partner, house=house, room=told(room), value=found)
        self.assertGreater(min(seen.values()), 20)

    def test_a_room_beside_has_a_partner(self):
        for letters, room in some_cornered(442, 2, beside=True):
            house = House(told(letters))
            found = partner(house, told(room))
            self.same(is_partner(house, found, told(room)), True)


class IsPartnerTest(PackageTest):
    def test_partners(self):
        for house, room, value in [(LINE, [[1, 0]], [[0, 1]]), (LINE, ((0, 1),), ((1, 0),)), (CALM, [[1, 5]], [[1, 4]]),
                                   (LINE, [], WHOLE), (LINE, tupled(WHOLE), []), (SHIFT, WHOLE, ()),
                                   (House([[[0]]]), [], [[1]])]:
            self.gives(True, is_partner, house=house, room=room, value=value)

    def test_no_partners(self):
        for house, room, value in [(LINE, [[1, 0]], [[1, 0]]), (LINE, [[1, 0]], []), (LINE, [[1, 0]], WHOLE),
                                   (LINE, [[1, 0]], [[1, 1]]), (SHIFT, [[0, 1]], [[1, 0]]), (CALM, [[1, 5]], [[1, 5]]),
                                   (LINE, [], []), (LINE, [], [[1, 0]]), (LINE, WHOLE, [[1, 0]]), (LINE, WHOLE, WHOLE),
                                   (CALM, [[0, 1]], [[2, 0]]), (CALM, [[0, 1]], [[0, 0]]),
                                   (CALM, [[0, 1]], [[1, 0], [0, 0]]), (CALM, [], [[0, 1], [1, 0]]),
                                   (CALM, [], [[1, 1], [0, 1]])]:
            self.gives(False, is_partner, house=house, room=room, value=value)

    def test_nothing_in_common_although_the_rows_are_as_many(self):
        calm = House([whole_room(4)])
        room = [[1, 0, 0, 0], [0, 1, 0, 0]]
        self.gives(True, is_partner, house=calm, room=room, value=[[0, 0, 1, 0], [0, 0, 0, 1]])
        self.gives(True, is_partner, house=calm, room=room, value=[[1, 0, Ratio(1, 2), 0], [0, 1, 0, 3]])
        self.gives(False, is_partner, house=calm, room=room, value=[[0, 1, 0, 0], [0, 0, 0, 1]])
        self.gives(False, is_partner, house=calm, room=room, value=[[1, 0, 1, 0], [0, 1, 1, 0]])

    def test_by_the_words_of_the_document(self):
        source = random.Random(443)
        seen = {True: 0, False: 0}
        for letters, room in some_kept(444):
            house, size = House(told(letters)), len(letters[0])
            values = [plain_steps(some_rows(source, size - len(room), size)), plain_steps(room),
                      plain_steps(whole_room(size)[len(room):])]
            for value in values:
                wanted = plain_is_partner(letters, room, value)
                seen[wanted] += 1
                self.same(is_partner(house, told(room), told(value)), wanted)
        self.assertGreater(min(seen.values()), 20)

    def test_values_of_every_kind(self):
        for value in bad_rows(2) + [Odd(), LINE, [[1, True]], [[True, 0]], [[0, 2]], [WHOLE]]:
            for room in [[[0, 1]], [], WHOLE]:
                self.same(is_partner(CALM, room, value), False)
                self.same(is_partner(value=value, room=room, house=CALM), False)


class OntoTest(PackageTest):
    def test_ordinary(self):
        self.gives(told([[1, 0], [0, 0]]), onto, house=LINE, room=[[1, 0]])
        self.gives(told([[0, 0], [0, 1]]), onto, house=LINE, room=((0, 1),))

    def test_none(self):
        self.gives(None, onto, house=SHIFT, room=[[0, 1]])
        self.gives(None, onto, house=BENT, room=[[0, 1]])

    def test_nought_and_the_whole_room(self):
        for letters in edge_letters():
            house, size = House(letters), len(letters[0])
            self.gives(told([[0] * size for _ in range(size)]), onto, house=house, room=[])
            self.gives(told(whole_room(size)), onto, house=house, room=whole_room(size))

    def test_by_the_words_of_the_document(self):
        for letters, room in some_kept(445):
            house = House(told(letters))
            found = onto(house, told(room))
            self.gives(found, onto, house=house, room=told(room))
            self.assertEqual(found is None, partner(house, told(room)) is None)
            if found is not None:
                table = fractions(found)
                self.assertTrue(plain_is_onto(letters, room, table))
                self.assertEqual(plain_times(table, table), table)
                self.gives(True, is_onto, house=house, room=told(room), value=found)
                lost = plain_kernel([list(column) for column in zip(*table)], house.width)
                self.assertTrue(plain_is_partner(letters, room, lost))
                self.same(is_partner(house, told(room), told(lost)), True)


class IsOntoTest(PackageTest):
    def test_onto(self):
        for house, room, value in [(LINE, [[0, 1]], [[0, 0], [0, 1]]), (LINE, ((1, 0),), ((1, 0), (Ratio(0), 0))),
                                   (SHIFT, [], [[0, 0], [0, 0]]), (SHIFT, WHOLE, WHOLE),
                                   (CALM, [[0, 1]], [[0, 7], [0, 1]]), (CALM, [[1, 2]], [[0, 0], [Ratio(1, 2), 1]])]:
            self.gives(True, is_onto, house=house, room=room, value=value)

    def test_not_onto(self):
        for house, room, value in [(LINE, [[0, 1]], [[0, 7], [0, 1]]), (LINE, [[0, 1]], WHOLE),
                                   (LINE, [[0, 1]], [[0, 0], [0, 2]]), (LINE, [[0, 1]], [[0, 0], [0, 0]]),
                                   (LINE, [], [[1, 0], [0, 0]]), (LINE, WHOLE, [[1, 0], [0, 0]]),
                                   (CALM, [[0, 1]], [[1, 0], [0, 1]]), (CALM, [[0, 1]], [[0, 0], [1, 1]]),
                                   (SHIFT, [[0, 1]], [[0, 0], [0, 1]]), (LINE, [], [[0]]),
                                   (LINE, WHOLE, whole_room(3))]:
            self.gives(False, is_onto, house=house, room=room, value=value)

    def test_by_the_words_of_the_document(self):
        source = random.Random(446)
        seen = {True: 0, False: 0}
        for letters, room in some_kept(447):
            size = len(letters[0])
            spread = [[sum(source.choice([0, 1]) * step[at] for step in room) for at in range(size)]
                      for _ in range(size)]
            for table in [some_rows(source, size, size), spread, whole_room(size), [[0] * size] * size]:
                wanted = plain_is_onto(letters, room, table)
                seen[wanted] += 1
                self.same(is_onto(House(told(letters)), told(room), told(table)), wanted)
        self.assertGreater(min(seen.values()), 20)

    def test_values_of_every_kind(self):
        for value in bad_tables() + [Odd(), LINE, [[True, 0], [0, 0]], [[0, False], [0, 1]], [[1]]]:
            for room in [[[0, 1]], [], WHOLE]:
                self.same(is_onto(CALM, room, value), False)
                self.same(is_onto(value=value, room=room, house=CALM), False)


class PartnerErrorsTest(PackageTest):
    def test_wrong_houses(self):
        for value in no_houses():
            for call in [partner, onto]:
                self.fails_both(InvalidHouse, {"value": value}, call, house=value, room=[])
            for call in [is_partner, is_onto]:
                self.fails_both(InvalidHouse, {"value": value}, call, house=value, room=[], value=[])

    def test_wrong_rooms(self):
        for value in bad_rooms():
            for call in [partner, onto]:
                self.fails_both(InvalidRoom, {"value": value}, call, house=BENT, room=value)
            for call in [is_partner, is_onto]:
                self.fails_both(InvalidRoom, {"value": value}, call, house=BENT, room=value, value=[])

    def test_first_error(self):
        for call in [partner, onto]:
            self.fails(InvalidHouse, {"value": "h"}, call, room="r", house="h")
        for call in [is_partner, is_onto]:
            self.fails(InvalidHouse, {"value": "h"}, call, "h", "r", "v")
            self.fails(InvalidRoom, {"value": "r"}, call, BENT, "r", "v")


if __name__ == "__main__":
    unittest.main()
