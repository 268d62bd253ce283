"""[85] Five numbers, [86] Every table by five."""
import itertools
import random
import unittest
from fractions import Fraction

from tests.helper import (Odd, PackageTest, bent_letters, fractions, no_lists, no_numbers, plain_sum, plain_word,
                          some_rows, some_undone, told, tupled, words_up_to)
from tests.test_houses import bad_words, no_houses, some_letters
from tracewords.changes import change
from tracewords.errors import InvalidFive, InvalidHouse, InvalidWord, NotTwo
from tracewords.fives import every_by, five, same_five, word_by
from tracewords.houses import House, about_house, led_house
from tracewords.lots import every_table
from tracewords.ratios import Ratio

HALF = Ratio(1, 2)
ONE, OTHER = [[1, 1], [0, 3]], [[0, 1], [1, 0]]
HOUSE, FLAT = House([ONE, OTHER]), House([[[1, 1], [0, 2]], OTHER])
# X X and Y Y are less the idle table, X Y and Y X come to nought added up: no tables of fractions do so.
TURNS = (0, 0, -2, 0, -2)


def unlike_houses():
    """Houses that are not of size 2 with two letters."""
    return [House(letters) for letters in some_letters(851, 1) if (len(letters), len(letters[0])) != (2, 2)]


def bad_fives():
    """Values that are no five."""
    found = no_lists() + [(), [], (1, 2, 3, 4), (1,) * 6, [4, 0, 10, 1, 2], [Ratio(1)] * 5, ((1, 2, 3, 4, 5),)]
    found += [(4, 0, one, 1, 2) for one in no_numbers()] + [(one,) * 5 for one in no_numbers()]
    return found + spoiled_five((4, 0, 10, 1, 2))


def spoiled_five(five_numbers):
    """The five with something odd in each place."""
    return [(*five_numbers[:at], one, *five_numbers[at + 1:]) for at in range(5)
            for one in [None, True, False, "1", [1], (1,), Fraction(1), Odd()]]


class Rooted:
    """a + b s, where s s is u + v s: numbers in which tables with any five are found, also where s is no fraction."""

    def __init__(self, first, second, square):
        self.first, self.second, self.square = Fraction(first), Fraction(second), square

    def __add__(self, other):
        return Rooted(self.first + other.first, self.second + other.second, self.square)

    def __mul__(self, other):
        both = self.second * other.second
        return Rooted(self.first * other.first + both * self.square[0],
                      self.first * other.second + self.second * other.first + both * self.square[1], self.square)


def rooted_sum(numbers, word):
    """The sum of the word in tables with this five, in which X can be undone, with a root of an equation."""
    first, second, squared, both, other_squared = numbers
    det, other_det = (first * first - squared) / 2, (second * second - other_squared) / 2
    # X is (0 1, -det x), Y (0 s, r y): r s is -other_det, and r - det s + x y the sum of X Y.
    rest = both - first * second
    square = (-other_det / det, -rest / det)

    def one(a, b=0):
        return Rooted(a, b, square)

    letters = [[[one(0), one(1)], [one(-det), one(first)]],
               [[one(0), one(0, 1)], [one(rest, det), one(second)]]]
    table = [[one(1), one(0)], [one(0), one(1)]]
    for at in word:
        by = letters[at]
        table = [[row[0] * by[0][place] + row[1] * by[1][place] for place in range(2)] for row in table]
    total = table[0][0] + table[1][1]
    assert total.second == 0
    return total.first


def some_fives(seed, many):
    """Tuples of five fractions, many of which no house of fractions has; X can be undone."""
    source = random.Random(seed)
    found = []
    while len(found) < many:
        numbers = tuple(Fraction(source.randint(-5, 5), source.choice([1, 1, 2, 3])) for _ in range(5))
        if numbers[0] * numbers[0] != numbers[2]:
            found.append(numbers)
    return found


class FiveTest(PackageTest):
    def test_ordinary(self):
        self.gives(told((4, 0, 10, 1, 2)), five, house=HOUSE)
        self.gives(told((0, 4, 2, 1, 10)), five, house=House([OTHER, ONE]))
        self.gives(told((0, 0, 0, 0, 0)), five, house=House([[[0, 1], [0, 0]]] * 2))
        self.gives((HALF, Ratio(2), Ratio(1, 4), HALF, Ratio(2)), five, house=House([[[HALF, 0], [0, 0]],
                                                                                     [[1, 0], [0, 1]]]))

    def test_by_the_words_of_the_document(self):
        for letters in [one for one in some_letters(852, 4) if (len(one), len(one[0])) == (2, 2)]:
            sums = [plain_sum(plain_word(letters, word)) for word in [[0], [1], [0, 0], [0, 1], [1, 1]]]
            self.gives(told(tuple(sums)), five, house=House(letters))

    def test_errors(self):
        for value in no_houses():
            self.fails_both(InvalidHouse, {"value": value}, five, house=value)
        for house in unlike_houses():
            self.fails_both(NotTwo, {}, five, house=house)


class SameFiveTest(PackageTest):
    def test_ordinary(self):
        self.gives(False, same_five, house=HOUSE, other=House([OTHER, ONE]))
        self.gives(True, same_five, house=HOUSE, other=House([ONE, OTHER]))
        self.gives(True, same_five, house=HOUSE, other=led_house(HOUSE, [[1, 2], [3, 4]]))
        self.gives(True, same_five, house=HOUSE, other=about_house(HOUSE))
        self.gives(True, same_five, house=House([[[0, 1], [0, 0]]] * 2), other=House([[[0, 0], [0, 0]]] * 2))

    def test_each_of_the_five_counts(self):
        mine = House([[[1, 0], [0, 2]], [[0, 1], [1, 0]]])
        for its in [[[[1, 0], [0, 3]], [[0, 1], [1, 0]]], [[[1, 0], [0, 2]], [[0, 1], [1, 1]]],
                    [[[1, 1], [1, 2]], [[0, 1], [1, 0]]], [[[1, 0], [0, 2]], [[1, 0], [0, -1]]],
                    [[[1, 0], [0, 2]], [[0, 1], [2, 0]]]]:
            self.gives(False, same_five, house=mine, other=House(its))
            self.gives(False, same_five, house=House(its), other=mine)

    def test_errors(self):
        for value in no_houses():
            self.fails_both(InvalidHouse, {"value": value}, same_five, house=value, other=HOUSE)
            self.fails_both(InvalidHouse, {"value": value}, same_five, house=HOUSE, other=value)
        for house in unlike_houses():
            self.fails_both(NotTwo, {}, same_five, house=house, other=HOUSE)
            self.fails_both(NotTwo, {}, same_five, house=HOUSE, other=house)
            self.fails_both(NotTwo, {}, same_five, house=house, other=house)

    def test_first_error(self):
        self.fails(InvalidHouse, {"value": "a"}, same_five, other="b", house="a")
        self.fails(InvalidHouse, {"value": "b"}, same_five, House([[[1]]]), "b")


class WordByTest(PackageTest):
    def test_ordinary(self):
        self.gives(Ratio(7), word_by, five=five(HOUSE), word=[0, 1, 0, 1])
        self.gives(Ratio(2), word_by, five=(4, 0, 10, 1, 2), word=[])
        for word, number in [([0], 4), ([1], 0), ([0, 0], 10), ([0, 1], 1), ([1, 0], 1), ([1, 1], 2)]:
            self.gives(Ratio(number), word_by, five=(4, 0, 10, 1, 2), word=word)
            self.gives(Ratio(number), word_by, five=told((4, 0, 10, 1, 2)), word=tuple(word))

    def test_houses(self):
        source = random.Random(853)
        for letters in [one for one in some_letters(854, 6) if (len(one), len(one[0])) == (2, 2)]:
            numbers = five(House(letters))
            longer = [[source.randint(0, 1) for _ in range(many)] for many in (9, 16, 16)]
            words = words_up_to(2, 4) + longer
            for word in words:
                self.gives(told(plain_sum(plain_word(letters, word))), word_by, five=numbers, word=word)

    def test_fives_that_no_house_of_fractions_has(self):
        for word, number in [([0], 0), ([0, 0], -2), ([0, 1], 0), ([0, 0, 1, 1], 2), ([0, 1, 0, 1], -2),
                             ([0] * 16, 2), ([0, 1] * 8, 2), ([0, 1, 1], 0), ([0] * 14 + [1, 1], 2)]:
            self.gives(Ratio(number), word_by, five=TURNS, word=word)

    def test_any_five(self):
        source = random.Random(855)
        for numbers in some_fives(856, 40):
            words = words_up_to(2, 3) + [[source.randint(0, 1) for _ in range(many)] for many in (4, 5, 6, 7, 16)]
            for word in words:
                self.gives(told(rooted_sum(numbers, word)), word_by, five=told(numbers), word=word)

    def test_fives_whose_letters_cannot_be_undone(self):
        self.gives(Ratio(0), word_by, five=(0, 0, 0, 0, 0), word=[0, 1, 0, 1])
        self.gives(Ratio(9), word_by, five=(0, 0, 0, 3, 0), word=[0, 1, 0, 1])
        self.gives(Ratio(0), word_by, five=(0, 0, 0, 3, 0), word=[0, 0, 1, 1])
        self.gives(Ratio(3 ** 8), word_by, five=(0, 0, 0, 3, 0), word=[0, 1] * 8)
        self.gives(Ratio(1, 2), word_by, five=(1, HALF, 1, HALF, Ratio(1, 4)), word=[0, 0, 0, 1])

    def test_letters_put_last(self):
        for numbers in some_fives(857, 5):
            for word in words_up_to(2, 5):
                sums = [word_by(told(numbers), word[at:] + word[:at]) for at in range(len(word))]
                self.assertTrue(all(one == sums[0] for one in sums))

    def test_wrong_fives(self):
        for value in bad_fives():
            self.fails_both(InvalidFive, {"value": value}, word_by, five=value, word=[])

    def test_wrong_words(self):
        for value in bad_words(2):
            self.fails_both(InvalidWord, {"value": value}, word_by, five=(4, 0, 10, 1, 2), word=value)

    def test_first_error(self):
        self.fails(InvalidFive, {"value": [1]}, word_by, word=[2], five=[1])


class EveryByTest(PackageTest):
    def test_ordinary(self):
        self.gives(True, every_by, five=five(HOUSE))
        self.gives(False, every_by, five=five(FLAT))
        self.gives(True, every_by, five=TURNS)
        self.gives(False, every_by, five=(0, 0, 0, 0, 0))
        self.gives(True, every_by, five=(0, 0, 0, 1, 0))
        self.gives(False, every_by, five=(2, 2, 2, 2, 2))

    def test_houses(self):
        source = random.Random(858)
        seen = {True: 0, False: 0}
        kinds = [some_rows(source, 2, 2) for _ in range(12)] + [ONE, OTHER, [[1, 1], [0, 2]], [[1, 0], [0, 1]]]
        for mine, its in itertools.product(kinds, repeat=2):
            house = House([mine, its])
            seen[every_table(house)] += 1
            self.gives(every_table(house), every_by, five=five(house))
        self.assertGreater(min(seen.values()), 20)

    def test_two_sums(self):
        for numbers in some_fives(859, 60):
            wanted = rooted_sum(numbers, [0, 0, 1, 1]) != rooted_sum(numbers, [0, 1, 0, 1])
            self.gives(wanted, every_by, five=told(numbers))

    def test_two_houses_with_the_same_five_are_one_in_other_letters(self):
        source = random.Random(860)
        for letters in [one for one in some_letters(861, 6) if (len(one), len(one[0])) == (2, 2)]:
            house = House(letters)
            for other in [House(told(bent_letters(letters, some_undone(source, 2)))), about_house(house)]:
                self.assertEqual(five(other), five(house))
                if every_by(five(house)):
                    self.assertIsNotNone(change(house, other))

    def test_wrong_fives(self):
        for value in bad_fives():
            self.fails_both(InvalidFive, {"value": value}, every_by, five=value)

    def test_nothing_passed_is_changed(self):
        letters = tupled(fractions([ONE, OTHER]))
        self.same(five(House(told(letters))), told((4, 0, 10, 1, 2)))


if __name__ == "__main__":
    unittest.main()
