"""[52] The nil part, [53] Parting, [54] The nil room, [56] their example."""
import functools
import random
import unittest

from tests.helper import (Odd, PackageTest, bent_letters, edge_letters, fractions, plain_idle, plain_kernel, plain_long,
                          plain_steps, plain_sum, plain_table, plain_times, plain_word, some_cornered, some_undone,
                          told, tupled, whole_room, words_up_to)
from tests.test_houses import no_houses, some_letters
from tests.test_leads import told_tables
from tests.test_lots import bad_mixtures, plain_lot, plain_made
from tests.test_rooms import plain_kept
from tests.test_tables import bad_tables
from tracewords.errors import InvalidHouse
from tracewords.houses import House
from tracewords.lots import dimension, table_by
from tracewords.nil import is_nil, is_nil_mixture, nil_mixture, nil_part, nil_room
from tracewords.partners import partner
from tracewords.ratios import Ratio
from tracewords.sums import parts, sums_rank

HALF = Ratio(1, 2)
PAIR, LINE = House([[[1, 1], [0, 1]], [[1, 0], [1, 1]]]), House([[[1, 0], [0, 2]]])
CORNER = House([[[1, 1], [0, 1]], [[1, 0], [0, 2]]])
CHAIN = House([[[0, 1, 0, 0], [0, 0, 1, 0], [0, 0, 0, 1], [0, 0, 0, 0]]])


def plain_nil(letters):
    """The steps of the long rows of the nil part: what of the lot has the sum 0, whatever word is put behind."""
    size = len(letters[0])
    words, rows = plain_lot(letters)
    gone = []
    for word in words_up_to(len(letters), 3) + words:
        table = plain_word(letters, word)
        gone.append([plain_sum(plain_times(plain_table(row, size), table)) for row in rows])
    return plain_steps([[sum(by * row[at] for by, row in zip(numbers, rows)) for at in range(size * size)]
                        for numbers in plain_kernel(gone, len(rows))])


@functools.lru_cache(maxsize=None)
def known():
    """Tuples of letters (at the edges, any, such as keep a room or two side by side) and the steps of the nil part."""
    found = edge_letters() + some_letters(521, 1)
    found += [letters for letters, _ in some_cornered(522, 2) + some_cornered(523, 1, beside=True)]
    return [(letters, plain_nil(letters)) for letters in found]


class NilPartTest(PackageTest):
    def test_example_of_56(self):
        self.gives(told([[[0, 1], [0, 0]]]), nil_part, house=CORNER)

    def test_houses_that_part(self):
        for house in [PAIR, LINE, House([[[0]]]), House([[[1]], [[2]], [[HALF]]]), House([whole_room(4)]),
                      House([[[0, 0], [0, 0]]]), House([[[0, 1], [-1, 0]]])]:
            self.gives([], nil_part, house=house)

    def test_a_chain(self):
        shift = CHAIN.letters()[0]
        powers = [CHAIN.table([0] * many) for many in (1, 2, 3)]
        self.assertEqual(powers[0], shift)
        self.gives(powers, nil_part, house=CHAIN)

    def test_a_letter_twice_and_a_letter_of_noughts(self):
        slope = [[1, 1], [0, 1]]
        self.gives(told([[[0, 1], [0, 0]]]), nil_part, house=House([slope, slope, [[0, 0], [0, 0]]]))

    def test_by_the_words_of_the_document(self):
        seen = set()
        for letters, wanted in known():
            seen.add(len(wanted))
            self.gives(told_tables(wanted, len(letters[0])), nil_part, house=House(told(letters)))
        self.assertGreater(len(seen), 3)

    def test_facts(self):
        for letters, _ in known():
            house = House(told(letters))
            found = fractions(nil_part(house))
            self.assertEqual(len(found), dimension(house) - sums_rank(house))
            self.assertEqual(len(found) == 0, parts(house))
            nought = [[0] * house.width] * house.width
            rows = [plain_long(table) for table in found]
            for table in found + [[[2 * mine - its for mine, its in zip(row, other)] for row, other in
                                   zip(found[0], found[-1])] for _ in found[:1]]:
                power = table
                for _ in range(house.width - 1):
                    power = plain_times(power, table)
                self.assertEqual(power, nought)
                for letter in fractions(letters):
                    for both in [plain_times(table, letter), plain_times(letter, table)]:
                        self.assertTrue(plain_made(rows, plain_long(both)))

    def test_of_a_house_led_by_a_table(self):
        source = random.Random(523)
        for letters, _ in some_cornered(524, 1):
            table = some_undone(source, len(letters[0]))
            found = nil_part(House(told(bent_letters(letters, table))))
            wanted = [plain_long(one) for one in bent_letters(nil_part(House(told(letters))), table)]
            self.same(found, told_tables(plain_steps(wanted), len(letters[0])))


class IsNilTest(PackageTest):
    def test_nil(self):
        for house, value in [(CORNER, [[0, 3], [0, 0]]), (CORNER, ((0, HALF), (Ratio(0), 0))),
                             (CORNER, [[0, 0], [0, 0]]), (PAIR, [[0, 0], [0, 0]]), (PAIR, ((0, 0), (0, 0))), (House([[[5]]]), [[0]]),
                             (CHAIN, [[0, 1, 2, 3], [0, 0, 1, 2], [0, 0, 0, 1], [0, 0, 0, 0]]), (CHAIN, [[0] * 4] * 4)]:
            self.gives(True, is_nil, house=house, value=value)

    def test_not_nil(self):
        for house, value in [(CORNER, [[1, 0], [0, 1]]), (CORNER, [[0, 0], [1, 0]]), (CORNER, [[1, 3], [0, 0]]),
                             (PAIR, [[0, 1], [0, 0]]), (House([[[5]]]), [[1]]), (CORNER, [[0]]),
                             (CORNER, [[0] * 3] * 3),
                             (CHAIN, [[0, 0, 0, 0], [0, 0, 1, 0], [0, 0, 0, 0], [0, 0, 0, 0]])]:
            self.gives(False, is_nil, house=house, value=value)

    def test_nil_by_sums_but_out_of_the_lot(self):
        # Each word has noughts but on the line, so this table, too, has the sum 0 with whatever word behind.
        self.gives(False, is_nil, house=LINE, value=[[0, 1], [0, 0]])
        self.gives(False, is_nil, house=House([whole_room(2)]), value=[[1, 0], [0, -1]])

    def test_by_the_words_of_the_document(self):
        source = random.Random(525)
        seen = {True: 0, False: 0}
        for letters, rows in known():
            house, size = House(told(letters)), len(letters[0])
            _, lot = plain_lot(letters)
            for among in [rows, rows, lot]:
                numbers = [source.choice([-1, 1, 2]) for _ in among]
                row = [sum(by * one[at] for by, one in zip(numbers, among)) for at in range(size * size)]
                wanted = plain_made(rows, row)
                seen[wanted] += 1
                self.same(is_nil(house, told(plain_table(fractions(row), size))), wanted)
        self.assertGreater(min(seen.values()), 20)

    def test_values_of_every_kind(self):
        for value in bad_tables() + [Odd(), CORNER, [[0, True], [0, 0]], [[False, 0], [0, 0]], [[[0, 1], [0, 0]]]]:
            self.same(is_nil(CORNER, value), False)
            self.same(is_nil(value=value, house=CORNER), False)


class NilMixtureTest(PackageTest):
    def test_of_houses_that_part(self):
        for house in [PAIR, LINE, House([[[0]]]), House([whole_room(4)]), House([[[0, 0], [0, 0]]])]:
            self.gives(None, nil_mixture, house=house)

    def test_any(self):
        seen = {True: 0, False: 0}
        for letters, rows in known():
            house = House(told(letters))
            found = nil_mixture(house)
            seen[found is None] += 1
            self.gives(found, nil_mixture, house=house)
            self.assertEqual(found is None, rows == [])
            if found is not None:
                self.assertIsInstance(found, list)
                for word, number in found:
                    self.assertIsInstance(word, list)
                    self.assertIsInstance(number, Ratio)
                row = plain_long(fractions(table_by(house, found)))
                self.assertTrue(any(row) and plain_made(rows, row))
                self.gives(True, is_nil_mixture, house=house, value=found)
        self.assertGreater(min(seen.values()), 10)


class IsNilMixtureTest(PackageTest):
    def test_such_mixtures(self):
        for value in [[([], -2), ([0], 2)], [([0], HALF), ((), Ratio(-1, 2))], (((), 1), ((0,), -1)),
                      [([0, 0], 1), ([], -1)], [([0] * 16, 1), ([], -1)], [([], 1)] * 39 + [([0], -39)],
                      [([0, 1], 1), ([1, 0], -1)]]:
            self.gives(True, is_nil_mixture, house=CORNER, value=value)

    def test_others(self):
        for value in [[], (), [([], 0)], [([], 1)], [([0], 1)], [([], 1), ([], -1)], [([0], 1), ([0], -1)], [([1], 1)],
                      [([0, 0], 1), ([0], -2), ([], 1)], [([], 1)] * 40, [([], 1)] * 40 + [([0], -40)]]:
            self.gives(False, is_nil_mixture, house=CORNER, value=value)

    def test_a_list_in_the_place_of_a_tuple(self):
        self.gives(True, is_nil_mixture, house=CORNER, value=[([], -2), ([0], 2)])
        self.gives(False, is_nil_mixture, house=CORNER, value=[[[], -2], ([0], 2)])
        self.gives(False, is_nil_mixture, house=CORNER, value=[([], -2), [[0], 2]])

    def test_none_of_a_house_that_parts(self):
        for value in [[], [([0, 1], 1), ([1, 0], -1)], [([], -1), ([0], 1)], [([0, 0], 1), ([0], -2), ([], 1)]]:
            self.gives(False, is_nil_mixture, house=PAIR, value=value)

    def test_values_of_every_kind(self):
        for value in bad_mixtures(2) + [Odd(), [([], True), ([0], -1)], [([False], 1), ([], -1)]]:
            self.same(is_nil_mixture(CORNER, value), False)
            self.same(is_nil_mixture(value=value, house=CORNER), False)

    def test_words_are_those_of_the_house(self):
        one = House([[[1, 1], [0, 1]]])
        self.gives(True, is_nil_mixture, house=one, value=[([0], 1), ([], -1)])
        self.gives(False, is_nil_mixture, house=one, value=[([0], 1), ([], -1), ([1], 0)])


class NilRoomTest(PackageTest):
    def test_example_of_56(self):
        self.gives(told([[0, 1]]), nil_room, house=CORNER)

    def test_ordinary(self):
        self.gives([], nil_room, house=LINE)
        self.gives([], nil_room, house=PAIR)
        self.gives(told(whole_room(4)[1:]), nil_room, house=CHAIN)
        self.gives([], nil_room, house=House([[[0]]]))

    def test_by_the_words_of_the_document(self):
        for letters, rows in known():
            house = House(told(letters))
            tables = [plain_table(row, house.width) for row in rows]
            wanted = plain_steps([row for table in tables for row in plain_times(plain_idle(house.width), table)])
            self.gives(told(wanted), nil_room, house=house)
            self.assertTrue(plain_kept(letters, wanted))
            self.assertEqual(wanted == [], parts(house))
            if not parts(house):
                self.assertTrue(0 < len(wanted) < house.width)
                self.assertIsNone(partner(house, told(wanted)))


class NilErrorsTest(PackageTest):
    def test_wrong_houses(self):
        for value in no_houses():
            for call in [nil_part, nil_mixture, nil_room]:
                self.fails_both(InvalidHouse, {"value": value}, call, house=value)
            self.fails_both(InvalidHouse, {"value": value}, is_nil, house=value, value=tupled([[1]]))
            self.fails_both(InvalidHouse, {"value": value}, is_nil, house=value, value="odd")
            self.fails_both(InvalidHouse, {"value": value}, is_nil_mixture, house=value, value="odd")

    def test_what_is_returned_is_new(self):
        for call in [nil_part, nil_mixture, nil_room]:
            wanted = call(CORNER)
            call(CORNER).clear()
            self.gives(wanted, call, house=CORNER)


if __name__ == "__main__":
    unittest.main()
