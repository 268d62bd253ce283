"""[6] Houses, words; [21] Words; [25] Other houses."""
import random
import unittest

from tests.helper import (Odd, PackageTest, fractions, no_counts, no_lists, no_numbers, plain_idle, plain_sum,
                          plain_times, plain_word, some_rows, spoiled, told, tupled, words_up_to)
from tests.test_tables import plain_told
from tracewords.errors import (InvalidHouse, InvalidLetters, InvalidTable, InvalidWord, NotUndone, TooMany,
                               UnlikeLetters)
from tracewords.houses import House, about_house, is_word, led_house, side
from tracewords.ratios import Ratio
from tracewords.tables import undone

SLOPE, CLIMB, SWAP = [[1, 1], [0, 1]], [[1, 0], [1, 1]], [[0, 1], [1, 0]]
FREE = House([SLOPE, CLIMB])


def bad_letters():
    """Values that are no letters of a house."""
    found = no_lists() + [[], (), [SLOPE] * 4, [[]], [[[]]], SLOPE, [[1, 2]], [SLOPE, [[1]]], [[[1]], SLOPE]]
    found += [[one] for one in no_lists()] + [[SLOPE, one] for one in no_lists()]
    found += [[[[one]]] for one in no_numbers()] + [[SLOPE, [[1, 0], [0, one]]] for one in no_numbers()]
    found += [[SLOPE, SLOPE, [[1, 2]]], [plain_idle(5)], [[[0] * 5 for _ in range(5)]]]
    # Whatever stands ahead of a table may have no length to compare with that of the table.
    found += spoiled([SLOPE, CLIMB, SWAP]) + spoiled(tupled([SLOPE, CLIMB]))
    found += [[one, one, SLOPE] for one in no_lists()] + [[[], SLOPE], [[], [], SLOPE], [[[1]], [1], SLOPE]]
    return found


def no_houses():
    """Values that are no House."""
    return no_lists()[:-2] + [House, [], [SLOPE], (SLOPE, CLIMB), Odd(), [FREE]]


def bad_words(many):
    """Values that are no word of so many letters."""
    found = no_lists() + [[one] for one in no_counts()] + [[0, one, 0] for one in no_counts()]
    return found + [[many], [0, many], [0] * 17, (0,) * 17, [[0]], [10 ** 20]] + spoiled([0, 0]) + spoiled((0, 0, 0))


def some_letters(seed, per_kind=2):
    """Letters for houses of each size and each number of letters."""
    source = random.Random(seed)
    return [[some_rows(source, size, size) for _ in range(many)]
            for size in (1, 2, 3, 4) for many in (1, 2, 3) for _ in range(per_kind)]


class MakingTest(PackageTest):
    def test_parts(self):
        for letters in some_letters(1):
            house = House(letters)
            self.same((house.width, house.many), (len(letters[0]), len(letters)))
            self.gives(told(letters), house.letters)

    def test_by_name_and_with_tuples(self):
        for house in [House(letters=[SLOPE, CLIMB]), House((SLOPE, CLIMB)), House(tupled([SLOPE, CLIMB])),
                      House([told(SLOPE), (CLIMB[0], tuple(CLIMB[1]))])]:
            self.assertEqual(house, FREE)
            self.same(house.letters(), told([SLOPE, CLIMB]))

    def test_a_letter_twice_and_letters_of_noughts(self):
        twice = House([SLOPE, SLOPE])
        self.same(twice.letters(), told([SLOPE, SLOPE]))
        nought = House([[[0, 0], [0, 0]]])
        self.same(nought.table([0]), told([[0, 0], [0, 0]]))
        self.same(nought.table([]), told([[1, 0], [0, 1]]))
        self.same(nought.word_sum([]), Ratio(2))

    def test_what_was_passed_is_copied(self):
        letters = [[[1, 2], [3, 4]], told([[5, 6], [7, 8]])]
        house = House(letters)
        letters[0][0][0] = 9
        letters[1][1] = [0, 0]
        letters.pop()
        self.same(house.letters(), told([[[1, 2], [3, 4]], [[5, 6], [7, 8]]]))

    def test_what_is_returned_is_a_copy(self):
        house = House([SLOPE, CLIMB])
        found = house.letters()
        found[0][0][0] = Ratio(9)
        found.pop()
        table = house.table([0])
        table[0][0] = Ratio(9)
        self.same(house.letters(), told([SLOPE, CLIMB]))
        self.same(house.table([0]), told(SLOPE))
        self.assertEqual(house, FREE)

    def test_parts_are_read_only(self):
        for name in ["width", "many"]:
            with self.assertRaises(AttributeError):
                setattr(House([SLOPE]), name, 3)

    def test_wrong_letters(self):
        for value in bad_letters():
            self.fails_both(InvalidLetters, {"value": value}, House, letters=value)


class EqualTest(PackageTest):
    def test_equal(self):
        self.same(House([SLOPE, CLIMB]) == House((told(SLOPE), tupled(CLIMB))), True)
        self.same(House([SLOPE]) != House([SLOPE]), False)
        self.same(House([[[Ratio(4, 2)]]]) == House([[[2]]]), True)

    def test_not_equal(self):
        for other in [House([CLIMB, SLOPE]), House([SLOPE]), House([SLOPE, CLIMB, CLIMB]), House([SLOPE, SWAP]),
                      House([[[1]], [[1]]])]:
            self.same(FREE == other, False)
            self.same(FREE != other, True)

    def test_never_equal_to_another_kind(self):
        for other in [None, True, 0, "house", [SLOPE, CLIMB], FREE.letters(), repr(FREE), Odd(), Ratio(1)]:
            self.same(FREE == other, False)
            self.same(other == FREE, False)

    def test_repr(self):
        self.same(repr(House([[[2]]])), "House([[[Ratio(2, 1)]]])")
        self.same(repr(House((((Ratio(-1, 2), 0), (0, 1)), SLOPE))),
                  "House([[[Ratio(-1, 2), Ratio(0, 1)], [Ratio(0, 1), Ratio(1, 1)]], "
                  "[[Ratio(1, 1), Ratio(1, 1)], [Ratio(0, 1), Ratio(1, 1)]]])")


class WordsTest(PackageTest):
    def test_tables_and_sums(self):
        for letters in some_letters(2):
            house = House(letters)
            for word in words_up_to(len(letters), 3):
                wanted = plain_word(letters, word)
                self.gives(told(wanted), house.table, word=word)
                self.gives(told(plain_sum(wanted)), house.word_sum, word=tuple(word))

    def test_the_empty_word_and_one_of_16_letters(self):
        self.gives(told([[1, 0], [0, 1]]), FREE.table, word=[])
        self.gives(told([[1, 0], [0, 1]]), FREE.table, word=())
        self.gives(Ratio(2), FREE.word_sum, word=[])
        self.gives(told([[1, 16], [0, 1]]), FREE.table, word=[0] * 16)
        word = [0, 1] * 8
        self.gives(told(plain_word([SLOPE, CLIMB], word)), FREE.table, word=word)

    def test_sequence(self):
        self.gives(told([[2, 1], [1, 1]]), FREE.table, word=[0, 1])
        self.gives(told([[1, 1], [1, 2]]), FREE.table, word=[1, 0])

    def test_sums_stay_if_first_letters_are_put_last(self):
        for letters in some_letters(3):
            house = House(letters)
            word = [0, len(letters) - 1, 0, 0]
            for at in range(4):
                self.assertEqual(house.word_sum(word[at:] + word[:at]), house.word_sum(word))

    def test_wrong_words(self):
        for letters in ([SLOPE], [SLOPE, CLIMB], [SLOPE, CLIMB, SWAP]):
            house = House(letters)
            for value in bad_words(len(letters)):
                self.fails_both(InvalidWord, {"value": value}, house.table, word=value)
                self.fails_both(InvalidWord, {"value": value}, house.word_sum, word=value)

    def test_is_word(self):
        for value in [[], (), [0], [1, 1, 0], (0, 1), [1] * 16]:
            self.gives(True, is_word, house=FREE, value=value)
        for value in bad_words(2):
            self.same(is_word(FREE, value), False)
            self.same(is_word(house=FREE, value=value), False)
        self.gives(False, is_word, house=House([SLOPE]), value=[1])
        self.gives(True, is_word, house=House([SLOPE, SWAP, CLIMB]), value=[2])

    def test_bools_are_no_letters(self):
        for value in [[True], [False], [0, True], (False,)]:
            self.gives(False, is_word, house=FREE, value=value)


class AboutHouseTest(PackageTest):
    def test_letters_are_turned_about(self):
        for letters in some_letters(4):
            wanted = House([[list(column) for column in zip(*letter)] for letter in letters])
            self.gives(wanted, about_house, house=House(letters))

    def test_a_word_is_the_word_backwards_turned_about(self):
        word = [0, 1, 1, 0, 0]
        house = House([[[1, 2], [3, 4]], [[0, 1], [5, -1]]])
        there = about_house(house).table(word)
        self.assertEqual(there, [list(column) for column in zip(*house.table(word[::-1]))])


class SideTest(PackageTest):
    def test_letters_on_the_line(self):
        wanted = House([[[1, 1, 0], [0, 1, 0], [0, 0, 7]], [[1, 0, 0], [1, 1, 0], [0, 0, Ratio(1, 2)]]])
        self.gives(wanted, side, house=FREE, other=House([[[7]], [[Ratio(1, 2)]]]))
        self.gives(House([[[2, 0], [0, 3]]]), side, house=House([[[2]]]), other=House([[[3]]]))

    def test_sums_are_added(self):
        houses = [House(letters) for letters in some_letters(5)]
        seen = 0
        for mine in houses:
            for other in houses:
                if mine.many == other.many and mine.width + other.width <= 4:
                    seen += 1
                    word = [0, mine.many - 1, 0]
                    both = side(mine, other)
                    self.assertEqual(both.width, mine.width + other.width)
                    self.assertEqual(both.word_sum(word), mine.word_sum(word) + other.word_sum(word))
        self.assertGreater(seen, 30)

    def test_a_house_beside_itself(self):
        self.same(side(FREE, FREE).width, 4)

    def test_unlike_letters(self):
        self.fails_both(UnlikeLetters, {}, side, house=FREE, other=House([SLOPE]))
        self.fails_both(UnlikeLetters, {}, side, house=House([SLOPE]), other=FREE)
        self.fails_both(UnlikeLetters, {}, side, house=House([plain_told(4)]), other=House([plain_told(4)] * 2))

    def test_too_many(self):
        for size in [2, 3, 4]:
            self.fails_both(TooMany, {"what": "size", "limit": 4}, side, house=House([plain_told(size)]),
                            other=House([plain_told(4)]))
        self.fails_both(TooMany, {"what": "size", "limit": 4}, side, house=House([plain_told(4)]),
                        other=House([[[0]]]))


class LedHouseTest(PackageTest):
    def test_letters_are_led(self):
        wanted = House([CLIMB, [[2, 0], [0, 1]]])
        self.gives(wanted, led_house, house=House([SLOPE, [[1, 0], [0, 2]]]), table=SWAP)
        self.gives(House([[[0, 1], [-1, 2]]]), led_house, house=House([SLOPE]), table=((1, 0), (1, 1)))

    def test_each_word_is_led_and_sums_stay(self):
        source = random.Random(6)
        seen = 0
        for letters in some_letters(6):
            house = House(letters)
            table = some_rows(source, house.width, house.width)
            try:
                back = undone(table)
            except NotUndone:
                continue
            seen += 1
            found = led_house(house, table)
            for word in words_up_to(house.many, 2):
                wanted = plain_times(plain_times(fractions(table), plain_word(letters, word)), fractions(back))
                self.same(found.table(word), told(wanted))
                self.same(found.word_sum(word), house.word_sum(word))
        self.assertGreater(seen, 8)

    def test_not_undone(self):
        self.fails_both(NotUndone, {}, led_house, house=FREE, table=[[1, 2], [2, 4]])
        self.fails_both(NotUndone, {}, led_house, house=House([[[3]]]), table=((0,),))

    def test_wrong_tables(self):
        for value in no_lists() + [[], [[1]], plain_told(3), [[1, 0], [0, True]], [[1, 0], [0]], [[1, 2]]]:
            self.fails_both(InvalidTable, {"value": value}, led_house, house=FREE, table=value)


class HouseErrorsTest(PackageTest):
    def test_wrong_houses(self):
        for value in no_houses():
            self.fails_both(InvalidHouse, {"value": value}, about_house, house=value)
            self.fails_both(InvalidHouse, {"value": value}, is_word, house=value, value=[])
            self.fails_both(InvalidHouse, {"value": value}, side, house=value, other=FREE)
            self.fails_both(InvalidHouse, {"value": value}, side, house=FREE, other=value)
            self.fails_both(InvalidHouse, {"value": value}, led_house, house=value, table=[[0, 0], [0, 0]])

    def test_first_error(self):
        self.fails(InvalidHouse, {"value": "a"}, side, other="b", house="a")
        self.fails(InvalidHouse, {"value": None}, led_house, None, None)
        self.fails(InvalidTable, {"value": [[0]]}, led_house, FREE, [[0]])


if __name__ == "__main__":
    unittest.main()
