"""[61] Words of both, [62] Sums."""
import functools
import random
import unittest

from tests.helper import (Odd, PackageTest, bent_letters, edge_letters, fractions, plain_sum, plain_times,
                          plain_word, some_cornered, some_undone, told, tupled, whole_room, words_up_to)
from tests.test_houses import bad_words, no_houses, some_letters
from tests.test_lots import plain_lot, plain_words
from tracewords.alike import alike_sums, both_words, is_unlike_word, unlike_word
from tracewords.errors import InvalidHouse, UnlikeLetters
from tracewords.houses import House, led_house
from tracewords.lots import base_words

SLOPE, CLIMB, DOUBLE = [[1, 1], [0, 1]], [[1, 0], [1, 1]], [[1, 0], [0, 2]]
TWO, THREE = House([[[2]]]), House([[[3]]])
PAIR, CORNER = House([SLOPE, CLIMB]), House([SLOPE, DOUBLE])


def plain_unlike(letters, others, word):
    """Whether the word has unlike sums."""
    return plain_sum(plain_word(letters, word)) != plain_sum(plain_word(others, word))


def turned(letters):
    """The letters with each number's places counted from the end: blocks stand in another sequence."""
    return [[list(row)[::-1] for row in letter][::-1] for letter in letters]


@functools.lru_cache(maxsize=None)
def known():
    """Tuples of the letters of two houses, as many in both, and the base words of both."""
    source = random.Random(611)
    every = edge_letters() + some_letters(612, 1) + [letters for letters, _ in some_cornered(613, 1, beside=True)]
    pairs = [(letters, bent_letters(letters, some_undone(source, len(letters[0])))) for letters in every]
    pairs += [(letters, turned(letters)) for letters in every]
    for letters in every:
        pairs.append((letters, source.choice([one for one in every if len(one) == len(letters)])))
        pairs.append((letters, letters[::-1]))
    return [(mine, its, plain_words(mine, its)[0]) for mine, its in pairs if len(mine) < 3 or len(mine[0]) < 4]


class BothWordsTest(PackageTest):
    def test_ordinary(self):
        self.gives([[], [0]], both_words, house=TWO, other=THREE)
        self.gives([[]], both_words, house=TWO, other=TWO)
        self.gives([[], [0], [1], [0, 1]], both_words, house=PAIR, other=PAIR)

    def test_with_itself_they_are_the_base_words(self):
        for letters in edge_letters() + some_letters(614, 1):
            house = House(letters)
            self.gives(base_words(house), both_words, house=house, other=House(letters))

    def test_unlike_sizes(self):
        self.gives([[], [0], [0, 0]], both_words, house=House([DOUBLE]), other=THREE)
        self.gives([[], [0]], both_words, house=House([DOUBLE]), other=TWO)
        self.gives([[], [0], [0, 0]], both_words, house=THREE, other=House([DOUBLE]))
        self.gives([[], [0]], both_words, house=House([whole_room(4)]), other=House([[[0]]]))

    def test_noughts_and_three_letters(self):
        nought = House([[[0, 0], [0, 0]]] * 3)
        self.gives([[]], both_words, house=nought, other=House([[[0]]] * 3))
        self.gives([[], [2]], both_words, house=nought, other=House([[[0]], [[0]], [[1]]]))

    def test_by_the_words_of_the_document(self):
        seen = set()
        for mine, its, words in known():
            seen.add(len(words))
            self.gives(words, both_words, house=House(told(mine)), other=House(told(its)))
        self.assertGreater(len(seen), 8)

    def test_facts(self):
        for mine, its, words in known():
            found = both_words(House(told(mine)), House(told(its)))
            for word in found:
                self.assertTrue(not word or word[:-1] in found)
            first, second = len(plain_lot(mine)[0]), len(plain_lot(its)[0])
            self.assertTrue(max(first, second) <= len(words) <= first + second)


class SumsTest(PackageTest):
    def test_ordinary(self):
        self.gives([0], unlike_word, house=TWO, other=THREE)
        self.gives(False, alike_sums, house=TWO, other=THREE)
        self.gives(None, unlike_word, house=TWO, other=TWO)
        self.gives(True, alike_sums, house=TWO, other=TWO)
        self.gives([1], unlike_word, house=PAIR, other=CORNER)
        self.gives(None, unlike_word, house=House([[[0, 1], [0, 0]]]), other=House([[[0, 0], [0, 0]]]))
        self.gives([0, 0], unlike_word, house=House([[[0, 1], [1, 0]]]), other=House([[[0, 1], [0, 0]]]))

    def test_a_later_word_tells_apart(self):
        mine, its = House([SLOPE, CLIMB]), House([SLOPE, SLOPE])
        self.gives([0, 1], unlike_word, house=mine, other=its)
        self.gives(False, alike_sums, house=mine, other=its)

    def test_unlike_sizes_are_told_apart_by_the_empty_word(self):
        for mine, its in [(House([[[0]]]), House([[[0, 0], [0, 0]]])), (House([whole_room(4)]), House([whole_room(3)])),
                          (House([[[0]]] * 3), House([[[0] * 4] * 4] * 3))]:
            self.gives([], unlike_word, house=mine, other=its)
            self.gives([], unlike_word, house=its, other=mine)
            self.gives(False, alike_sums, house=its, other=mine)

    def test_by_the_words_of_the_document(self):
        seen = {True: 0, False: 0}
        for mine, its, words in known():
            house, other = House(told(mine)), House(told(its))
            unlike = [word for word in words if plain_unlike(mine, its, word)]
            seen[unlike == []] += 1
            self.gives(unlike[0] if unlike else None, unlike_word, house=house, other=other)
            self.gives(unlike == [], alike_sums, house=house, other=other)
            if not unlike:
                for word in words_up_to(len(mine), 4):
                    self.assertFalse(plain_unlike(mine, its, word))
        self.assertGreater(min(seen.values()), 20)

    def test_alike(self):
        source = random.Random(621)
        for letters in edge_letters() + some_letters(622, 1):
            house = House(letters)
            for other in [house, House(letters), led_house(house, told(some_undone(source, house.width))),
                          House(turned(letters))]:
                self.gives(True, alike_sums, house=house, other=other)
                self.gives(None, unlike_word, house=house, other=other)

    def test_blocks_in_another_sequence_and_other_corners(self):
        mine = House([[[1, 5, 7], [0, 2, 9], [0, 0, 3]], [[0, 1, 1], [0, 1, 4], [0, 0, 2]]])
        its = House([[[3, 0, 0], [0, 1, 0], [0, 0, 2]], [[2, 0, 0], [0, 0, 0], [0, 0, 1]]])
        self.gives(True, alike_sums, house=mine, other=its)
        its = House([[[3, 0, 0], [0, 1, 0], [0, 0, 2]], [[2, 0, 0], [0, 1, 0], [0, 0, 0]]])
        self.gives([0, 1], unlike_word, house=mine, other=its)


class IsUnlikeWordTest(PackageTest):
    def test_unlike(self):
        for value in [[0], (0,), (0, 0), [0] * 16]:
            self.gives(True, is_unlike_word, house=TWO, other=THREE, value=value)
        self.gives(True, is_unlike_word, house=TWO, other=House([[[2, 0], [0, 0]]]), value=[])
        self.gives(True, is_unlike_word, house=PAIR, other=House([SLOPE, SLOPE]), value=[0, 1, 1])

    def test_not_unlike(self):
        for value in [[], (), [1], [0] * 17]:
            self.gives(False, is_unlike_word, house=TWO, other=THREE, value=value)
        for value in [[], [0], [1], [0, 0], [1, 1]]:
            self.gives(False, is_unlike_word, house=PAIR, other=House([SLOPE, SLOPE]), value=value)
        self.gives(False, is_unlike_word, house=TWO, other=House([[[2, 0], [0, 0]]]), value=[0])

    def test_by_the_words_of_the_document(self):
        for mine, its, _ in known():
            for word in words_up_to(len(mine), 2):
                self.same(is_unlike_word(House(told(mine)), House(told(its)), word), plain_unlike(mine, its, word))

    def test_values_of_every_kind(self):
        other = House([[[2, 0], [0, 5]], [[7, 0], [0, 5]]])
        for value in bad_words(2) + [Odd(), TWO, [True], [False], (0, False)]:
            self.same(is_unlike_word(PAIR, other, value), False)
            self.same(is_unlike_word(value=value, other=other, house=PAIR), False)
        for value in [[0], [1]]:
            self.gives(True, is_unlike_word, house=PAIR, other=other, value=value)


class AlikeErrorsTest(PackageTest):
    def test_wrong_houses(self):
        for value in no_houses():
            for call in [both_words, unlike_word, alike_sums]:
                self.fails_both(InvalidHouse, {"value": value}, call, house=value, other=TWO)
                self.fails_both(InvalidHouse, {"value": value}, call, house=TWO, other=value)
            self.fails_both(InvalidHouse, {"value": value}, is_unlike_word, house=value, other=TWO, value=[])
            self.fails_both(InvalidHouse, {"value": value}, is_unlike_word, house=TWO, other=value, value=[])

    def test_unlike_letters(self):
        for mine, its in [(PAIR, TWO), (TWO, PAIR), (House([SLOPE] * 3), PAIR), (TWO, House([[[1]]] * 3))]:
            for call in [both_words, unlike_word, alike_sums]:
                self.fails_both(UnlikeLetters, {}, call, house=mine, other=its)
            self.fails_both(UnlikeLetters, {}, is_unlike_word, house=mine, other=its, value="odd")

    def test_first_error(self):
        for call in [both_words, unlike_word, alike_sums]:
            self.fails(InvalidHouse, {"value": "a"}, call, other="b", house="a")
        self.fails(InvalidHouse, {"value": "b"}, is_unlike_word, TWO, "b", "c")

    def test_tables_of_words_are_products_in_sequence(self):
        mine, its = House([SLOPE, CLIMB, DOUBLE]), House([SLOPE, CLIMB, [[2, 0], [0, 1]]])
        for word in [[0, 1, 2], [1, 0, 2]]:
            tables = [fractions(house.letters()) for house in (mine, its)]
            sums = [plain_sum(functools.reduce(plain_times, [table[at] for at in word])) for table in tables]
            self.gives(sums[0] != sums[1], is_unlike_word, house=mine, other=its, value=tupled(word))


if __name__ == "__main__":
    unittest.main()
