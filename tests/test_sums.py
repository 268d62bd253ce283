"""[51] The table of sums, [53] Parting, [55] Counts, [56] their example."""
import random
import unittest

from tests.helper import (PackageTest, bent_letters, edge_letters, plain_rank, plain_sum, plain_word, some_cornered,
                          some_undone, told, whole_room)
from tests.test_houses import no_houses, some_letters
from tests.test_leads import plain_leads, plain_meet
from tests.test_lots import plain_lot
from tests.test_partners import has_partner
from tests.test_rooms import some_rooms
from tracewords.errors import InvalidHouse, NotParted
from tracewords.houses import House
from tracewords.lots import base_words, dimension, every_table
from tracewords.ratios import Ratio
from tracewords.sums import counts, parts, sums_rank, sums_table

PAIR, LINE = House([[[1, 1], [0, 1]], [[1, 0], [1, 1]]]), House([[[1, 0], [0, 2]]])
CORNER = House([[[1, 1], [0, 1]], [[1, 0], [0, 2]]])
NOUGHT = House([[[0, 0], [0, 0]]])
CYCLE, CHAIN = [House([[[0, 1, 0, 0], [0, 0, 1, 0], [0, 0, 0, 1], [last, 0, 0, 0]]]) for last in (1, 0)]


def plain_sums(letters, words):
    """The sums of the words, each followed by each, of Fractions."""
    return [[plain_sum(plain_word(letters, word + other)) for other in words] for word in words]


def many_letters(seed):
    """Letters at the edges, any letters, such as keep a room, and such as keep two side by side."""
    found = edge_letters() + some_letters(seed, 1)
    return found + [letters for letters, _ in some_cornered(seed, 1) + some_cornered(seed + 1, 1, beside=True)]


class SumsTableTest(PackageTest):
    def test_ordinary(self):
        self.gives(told([[2, 2, 2, 3], [2, 2, 3, 4], [2, 3, 2, 4], [3, 4, 4, 7]]), sums_table, house=PAIR)
        self.gives(told([[2, 3], [3, 5]]), sums_table, house=LINE)

    def test_example_of_56(self):
        self.gives(told([[2, 2, 3], [2, 2, 3], [3, 3, 5]]), sums_table, house=CORNER)
        self.gives(2, sums_rank, house=CORNER)

    def test_sizes_1_and_4(self):
        self.gives(told([[1]]), sums_table, house=House([[[0]]]))
        self.gives(told([[1]]), sums_table, house=House([[[7]], [[Ratio(1, 2)]], [[-1]]]))
        self.gives(told([[4]]), sums_table, house=House([whole_room(4)]))
        self.gives(told([[4, 0, 0, 0], [0, 0, 0, 4], [0, 0, 4, 0], [0, 4, 0, 0]]), sums_table, house=CYCLE)
        self.gives(told([[4, 0, 0, 0], [0, 0, 0, 0], [0, 0, 0, 0], [0, 0, 0, 0]]), sums_table, house=CHAIN)

    def test_noughts_and_a_letter_twice(self):
        self.gives(told([[2]]), sums_table, house=NOUGHT)
        self.gives(told([[2, 3], [3, 5]]), sums_table, house=House([[[1, 0], [0, 2]]] * 3))

    def test_by_the_words_of_the_document(self):
        for letters in many_letters(511):
            house = House(told(letters))
            found = sums_table(house)
            words = base_words(house)
            self.gives(told(plain_sums(letters, words)), sums_table, house=house)
            self.assertEqual(len(found), dimension(house))
            self.same(found, [list(column) for column in zip(*found)])

    def test_base_words_are_those_of_22(self):
        for letters in edge_letters():
            words, _ = plain_lot(letters)
            self.same(sums_table(House(letters)), told(plain_sums(letters, words)))

    def test_sixteen_base_words(self):
        house = House([[[0, 1, 0, 0], [0, 0, 1, 0], [0, 0, 0, 1], [1, 0, 0, 0]],
                       [[1, 0, 0, 0], [0, 0, 0, 0], [0, 0, 0, 0], [0, 0, 0, 0]]])
        found = sums_table(house)
        self.assertEqual((len(found), {len(row) for row in found}), (16, {16}))
        self.gives(16, sums_rank, house=house)


class RankTest(PackageTest):
    def test_ranks(self):
        for house, wanted in [(PAIR, 4), (CORNER, 2), (LINE, 2), (NOUGHT, 1), (CYCLE, 4), (CHAIN, 1),
                              (House([[[0]]]), 1), (House([[[1, 1], [0, 1]]]), 1), (House([whole_room(4)] * 3), 1)]:
            self.gives(wanted, sums_rank, house=house)

    def test_by_the_words_of_the_document(self):
        seen = set()
        for letters in many_letters(512):
            house = House(told(letters))
            wanted = plain_rank(plain_sums(letters, base_words(house)))
            seen.add(wanted)
            self.gives(wanted, sums_rank, house=house)
        self.assertGreater(len(seen), 6)


class PartsTest(PackageTest):
    def test_they_part(self):
        for letters in [[[[0]]], [[[5]], [[0]]], [[[1, 0], [0, 2]]], [[[0, 0], [0, 0]]], [[[0, 1], [-1, 0]]],
                        [whole_room(4)], CYCLE.letters(), PAIR.letters(), PAIR.letters() + PAIR.letters()[:1]]:
            self.gives(True, parts, house=House(letters))

    def test_they_do_not(self):
        for letters in [[[[1, 1], [0, 1]]], [[[0, 1], [0, 0]]], CORNER.letters(), CHAIN.letters(),
                        [[[1, 0, 0], [0, 1, 0], [0, 1, 1]]]]:
            self.gives(False, parts, house=House(letters))

    def test_side_by_side_and_three_cornered(self):
        for letters, room in some_cornered(531, 2):
            house = House(told(letters))
            if parts(house):
                self.assertTrue(has_partner(letters, room))
        for letters, room in some_cornered(532, 2, beside=True):
            whole = House(told(letters))
            source = random.Random(533)
            bent = House(told(bent_letters(letters, some_undone(source, whole.width))))
            self.same(parts(bent), parts(whole))

    def test_each_kept_room_of_a_house_that_parts_has_a_partner(self):
        source = random.Random(534)
        seen = {True: 0, False: 0}
        for letters in many_letters(535):
            found = parts(House(told(letters)))
            seen[found] += 1
            for room in some_rooms(letters, source) if found else []:
                self.assertTrue(not room or has_partner(letters, room))
        self.assertGreater(min(seen.values()), 10)

    def test_it_is_whether_the_rank_is_the_dimension(self):
        for letters in many_letters(536):
            house = House(told(letters))
            self.gives(sums_rank(house) == dimension(house), parts, house=house)


class CountsTest(PackageTest):
    def test_ordinary(self):
        self.gives((4, 1, 1), counts, house=PAIR)
        self.gives((2, 2, 2), counts, house=LINE)

    def test_sizes_1_and_4(self):
        self.gives((1, 1, 1), counts, house=House([[[0]]]))
        self.gives((1, 1, 1), counts, house=House([[[3]], [[4]], [[5]]]))
        self.gives((1, 16, 1), counts, house=House([whole_room(4), [[0] * 4] * 4]))
        self.gives((4, 4, 4), counts, house=CYCLE)
        self.gives((16, 1, 1), counts, house=House([CYCLE.letters()[0], [[1, 0, 0, 0]] + [[0] * 4] * 3]))
        self.gives((3, 6, 3), counts, house=House([[[1, 0, 0, 0], [0, 2, 0, 0], [0, 0, 3, 0], [0, 0, 0, 3]]]))

    def test_noughts_and_blocks_side_by_side(self):
        self.gives((1, 4, 1), counts, house=NOUGHT)
        self.gives((2, 2, 2), counts, house=House([[[0, 1], [-1, 0]]]))
        self.gives((5, 2, 2), counts, house=House([[[1, 1, 0], [0, 1, 0], [0, 0, 7]],
                                                   [[1, 0, 0], [1, 1, 0], [0, 0, 3]]]))
        self.gives((4, 4, 1), counts, house=House([[[1, 1, 0, 0], [0, 1, 0, 0], [0, 0, 1, 1], [0, 0, 0, 1]],
                                                   [[1, 0, 0, 0], [1, 1, 0, 0], [0, 0, 1, 0], [0, 0, 1, 1]]]))

    def test_two_alike_numbers_on_the_line(self):
        self.gives((2, 5, 2), counts, house=House([[[1, 0, 0], [0, 1, 0], [0, 0, 2]]]))

    def test_by_the_words_of_the_document(self):
        seen = 0
        for letters in many_letters(551):
            house = House(told(letters))
            if not parts(house):
                self.fails_both(NotParted, {}, counts, house=house)
                continue
            seen += 1
            _, rows = plain_lot(letters)
            both = plain_leads(letters, letters)
            self.gives((dimension(house), len(both), len(plain_meet(rows, both))), counts, house=house)

    def test_facts(self):
        for letters in many_letters(552):
            house = House(told(letters))
            if parts(house):
                many, commute, mid = counts(house)
                self.assertTrue(1 <= mid <= min(many, commute))
                self.assertLessEqual(house.width * house.width, many * commute)
                self.assertEqual(every_table(house), commute == 1)

    def test_not_parted(self):
        for house in [CORNER, CHAIN, House([[[0, 1], [0, 0]]]), House([[[1, 0], [5, 1]]] * 3)]:
            self.fails_both(NotParted, {}, counts, house=house)


class SumsErrorsTest(PackageTest):
    def test_wrong_houses(self):
        for value in no_houses():
            for call in [sums_table, sums_rank, parts, counts]:
                self.fails_both(InvalidHouse, {"value": value}, call, house=value)


if __name__ == "__main__":
    unittest.main()
