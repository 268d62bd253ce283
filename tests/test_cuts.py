"""[36] Cut and rest, [37] Sums split."""
import random
import unittest

from tests.helper import (PackageTest, edge_letters, fractions, plain_led, plain_rank, plain_sum, plain_word,
                          some_cornered, told, tupled, whole_room, words_up_to)
from tests.test_houses import bad_words, no_houses
from tests.test_rooms import bad_rows, some_rooms
from tracewords.cuts import cut, rest_house, split_sums
from tracewords.errors import InvalidHouse, InvalidRoom, InvalidWord, NoughtRoom, WholeRoom
from tracewords.houses import House
from tracewords.ratios import Ratio

BENT = House([[[1, 1], [0, 1]], [[1, 0], [0, 2]]])
BLOCKS = House([[[1, 2, 0], [3, 4, 0], [0, 0, 5]]])
WHOLE = [[1, 0], [0, 1]]


def some_kept(seed):
    """Tuples of letters and a room that they keep, neither nought nor whole."""
    found = some_cornered(seed, 2) + some_cornered(seed + 1, 1, beside=True)
    source = random.Random(seed)
    for letters in edge_letters():
        found += [(letters, room) for room in some_rooms(letters, source) if 0 < len(room) < len(letters[0])]
    return found


def bad_rooms():
    """Values that are no kept room of BENT."""
    return bad_rows(2) + [[[1, 0]], [[0, 2]], [[0, 1], [0, 1]], [[0, 0]], [[0, 1], [1, 0]], [[0, True]], [[False, 1]]]


class CutTest(PackageTest):
    def test_ordinary(self):
        self.gives(House([[[1]], [[2]]]), cut, house=BENT, room=[[0, 1]])
        self.gives(House([[[1, 2], [3, 4]]]), cut, house=BLOCKS, room=[[1, 0, 0], [0, 1, 0]])
        self.gives(House([[[5]]]), cut, house=BLOCKS, room=((0, 0, 1),))

    def test_the_numbers_are_those_of_the_steps(self):
        # (1 2 0) is led to (3 6 1), three times the first step and the other one.
        house = House([[[1, 0, 1], [1, 3, 0], [0, 0, 4]]])
        self.gives(House([[[3, 1], [0, 4]]]), cut, house=house, room=[[1, 2, 0], [0, 0, 1]])

    def test_the_whole_room(self):
        for letters in edge_letters():
            size = len(letters[0])
            self.gives(House(letters), cut, house=House(letters), room=whole_room(size))
        self.gives(BENT, cut, house=BENT, room=tupled(WHOLE))

    def test_nought(self):
        for letters in edge_letters():
            self.fails_both(NoughtRoom, {}, cut, house=House(letters), room=[])
        self.fails_both(NoughtRoom, {}, cut, house=BENT, room=())

    def test_by_the_words_of_the_document(self):
        for letters, room in some_kept(361):
            found = cut(House(told(letters)), told(room))
            self.assertEqual((found.width, found.many), (len(room), len(letters)))
            for letter, small in zip(letters, found.letters()):
                for step, row in zip(room, fractions(small)):
                    self.assertEqual(plain_led(row, room), plain_led(step, letter))

    def test_cuts_of_products_are_products_of_cuts(self):
        for letters, room in some_kept(362):
            found = cut(House(told(letters)), told(room))
            for word in words_up_to(len(letters), 2):
                whole, small = plain_word(letters, word), fractions(found.table(word))
                for step, row in zip(room, small):
                    self.assertEqual(plain_led(row, room), plain_led(step, whole))


class RestTest(PackageTest):
    def test_ordinary(self):
        self.gives(House([[[1]], [[1]]]), rest_house, house=BENT, room=[[0, 1]])
        self.gives(House([[[5]]]), rest_house, house=BLOCKS, room=[[1, 0, 0], [0, 1, 0]])
        self.gives(House([[[1, 2], [3, 4]]]), rest_house, house=BLOCKS, room=((0, 0, 1),))

    def test_multiples_of_the_steps_are_taken_away(self):
        # At the place 1, (0 1 0) is led to (1 3 0); less the first step, (1 2 0), it is (0 1 0).
        house = House([[[1, 0, 1], [1, 3, 0], [0, 0, 4]]])
        self.gives(House([[[1]]]), rest_house, house=house, room=[[1, 2, 0], [0, 0, 1]])

    def test_nought(self):
        for letters in edge_letters():
            self.gives(House(letters), rest_house, house=House(letters), room=[])
        self.gives(BENT, rest_house, house=BENT, room=())

    def test_the_whole_room(self):
        for letters in edge_letters():
            size = len(letters[0])
            self.fails_both(WholeRoom, {}, rest_house, house=House(letters), room=whole_room(size))
        self.fails_both(WholeRoom, {}, rest_house, house=BENT, room=tupled(WHOLE))

    def test_by_the_words_of_the_document(self):
        for letters, room in some_kept(363):
            size = len(letters[0])
            found = rest_house(House(told(letters)), told(room))
            heads = [[number != 0 for number in step].index(True) for step in room]
            left = [place for place in range(size) if place not in heads]
            self.assertEqual((found.width, found.many), (len(left), len(letters)))
            for word in words_up_to(len(letters), 2):
                whole, small = plain_word(letters, word), fractions(found.table(word))
                for place, row in zip(left, small):
                    spread = [row[left.index(at)] if at in left else 0 for at in range(size)]
                    less = [mine - its for mine, its in zip(whole[place], spread)]
                    self.assertEqual(plain_rank(room + [less]), len(room))


class SplitSumsTest(PackageTest):
    def test_ordinary(self):
        self.gives((Ratio(4), Ratio(1)), split_sums, house=BENT, room=[[0, 1]], word=[1, 1])
        self.gives((Ratio(29), Ratio(25)), split_sums, house=BLOCKS, room=((1, 0, 0), (0, 1, 0)), word=(0, 0))

    def test_the_empty_word(self):
        self.gives((Ratio(1), Ratio(1)), split_sums, house=BENT, room=[[0, 1]], word=[])
        self.gives((Ratio(1), Ratio(2)), split_sums, house=BLOCKS, room=[[0, 0, 1]], word=())

    def test_nought_and_the_whole_room(self):
        for letters in edge_letters():
            house = House(letters)
            for word in words_up_to(house.many, 2) + [[0] * 16]:
                wanted = told(plain_sum(plain_word(letters, word)))
                self.gives((Ratio(0), wanted), split_sums, house=house, room=[], word=word)
                self.gives((wanted, Ratio(0)), split_sums, house=house, room=whole_room(house.width), word=word)

    def test_both_add_up(self):
        for letters, room in some_kept(371):
            house = House(told(letters))
            for word in words_up_to(house.many, 3):
                within, beside = split_sums(house, told(room), word)
                self.assertEqual(within + beside, told(plain_sum(plain_word(letters, word))))
                self.assertEqual(within, cut(house, told(room)).word_sum(word))
                self.assertEqual(beside, rest_house(house, told(room)).word_sum(word))

    def test_wrong_words(self):
        for value in bad_words(2):
            for room in [[[0, 1]], [], WHOLE]:
                self.fails_both(InvalidWord, {"value": value}, split_sums, house=BENT, room=room, word=value)


class CutErrorsTest(PackageTest):
    def test_wrong_houses(self):
        for value in no_houses():
            self.fails_both(InvalidHouse, {"value": value}, cut, house=value, room=[[0, 1]])
            self.fails_both(InvalidHouse, {"value": value}, rest_house, house=value, room=[[0, 1]])
            self.fails_both(InvalidHouse, {"value": value}, split_sums, house=value, room=[[0, 1]], word=[0])

    def test_wrong_rooms(self):
        for value in bad_rooms():
            self.fails_both(InvalidRoom, {"value": value}, cut, house=BENT, room=value)
            self.fails_both(InvalidRoom, {"value": value}, rest_house, house=BENT, room=value)
            self.fails_both(InvalidRoom, {"value": value}, split_sums, house=BENT, room=value, word=[0])

    def test_first_error(self):
        self.fails(InvalidHouse, {"value": None}, cut, None, None)
        self.fails(InvalidHouse, {"value": 1}, rest_house, room=2, house=1)
        self.fails(InvalidHouse, {"value": 1}, split_sums, 1, 2, 3)
        self.fails(InvalidRoom, {"value": [[1, 0]]}, split_sums, BENT, [[1, 0]], [2])
        self.fails(InvalidWord, {"value": [2]}, split_sums, BENT, [], [2])


if __name__ == "__main__":
    unittest.main()
