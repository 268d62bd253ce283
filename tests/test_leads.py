"""[41] Commuting tables, [42] Leads, [43] The middle."""
import random
import unittest

from tests.helper import (Odd, PackageTest, bent_letters, edge_letters, fractions, plain_idle, plain_kernel, plain_long,
                          plain_steps, plain_table, plain_times, plain_undone, plain_word, some_cornered, some_rows,
                          some_undone, told, tupled, whole_room, words_up_to)
from tests.test_houses import no_houses, some_letters
from tests.test_lots import plain_lot
from tests.test_rooms import plain_kept
from tests.test_tables import bad_tables
from tracewords.errors import InvalidHouse, UnlikeLetters, UnlikeSizes
from tracewords.houses import House
from tracewords.leads import commuting, is_commuting, is_lead, leads, middle
from tracewords.ratios import Ratio

HALF = Ratio(1, 2)
LINE, SHIFT, TURNED = House([[[1, 0], [0, 2]]]), House([[[1, 1], [0, 1]]]), House([[[2, 0], [0, 1]]])
FREE = House([[[1, 1], [0, 1]], [[1, 0], [1, 1]]])


def plain_less(table, other):
    """The one table less the other one, as a long row."""
    return [mine - its for mine, its in zip(plain_long(table), plain_long(other))]


def plain_leads(letters, others):
    """The steps of the long rows of all leads: what X T - T Y, for each table T with a single 1, tells."""
    size = len(letters[0])
    gone = []
    for place in range(size * size):
        table = plain_table([int(at == place) for at in range(size * size)], size)
        gone.append([number for mine, its in zip(letters, others)
                     for number in plain_less(plain_times(fractions(mine), table), plain_times(table, fractions(its)))])
    return plain_kernel([list(column) for column in zip(*gone)], size * size)


def plain_is_lead(letters, others, table):
    """Whether X T is T Y for all of them."""
    table = fractions(table)
    return all(plain_times(fractions(mine), table) == plain_times(table, fractions(its))
               for mine, its in zip(letters, others))


def plain_meet(rows, others):
    """The steps of what both make: the numbers by which the rows make something that the others make, too."""
    wide = len(rows[0])
    columns = [list(column) for column in zip(*(rows + others))]
    return plain_steps([[sum(by * row[at] for by, row in zip(numbers, rows)) for at in range(wide)]
                        for numbers in plain_kernel(columns, len(rows) + len(others))])


def told_tables(rows, size):
    """The told tables of long rows."""
    return [told(plain_table(row, size)) for row in rows]


def many_letters(seed):
    """Letters at the edges, any letters, and such as keep a room."""
    found = edge_letters() + some_letters(seed, 1)
    return found + [letters for letters, _ in some_cornered(seed, 1) + some_cornered(seed + 1, 1, beside=True)]


class CommutingTest(PackageTest):
    def test_ordinary(self):
        self.gives(told([[[1, 0], [0, 0]], [[0, 0], [0, 1]]]), commuting, house=LINE)
        self.gives(told([[[1, 0], [0, 1]], [[0, 1], [0, 0]]]), commuting, house=SHIFT)
        self.gives(told([[[1, 0], [0, 1]]]), commuting, house=FREE)

    def test_sizes_1_and_4(self):
        self.gives(told([[[1]]]), commuting, house=House([[[0]]]))
        self.gives(told([[[1]]]), commuting, house=House([[[7]], [[HALF]], [[-1]]]))
        calm = House([whole_room(4)])
        self.gives(told_tables(plain_idle(16), 4), commuting, house=calm)
        cycle = House([[[0, 1, 0, 0], [0, 0, 1, 0], [0, 0, 0, 1], [1, 0, 0, 0]]])
        self.gives([cycle.table([0] * many) for many in (0, 1, 2, 3)], commuting, house=cycle)

    def test_noughts_and_a_letter_twice(self):
        four = told_tables(plain_idle(4), 2)
        self.gives(four, commuting, house=House([[[0, 0], [0, 0]]]))
        self.gives(told([[[1, 0], [0, 0]], [[0, 0], [0, 1]]]), commuting, house=House([[[1, 0], [0, 2]]] * 3))

    def test_blocks_side_by_side(self):
        letters = [[[1, 1, 0], [0, 1, 0], [0, 0, 7]], [[1, 0, 0], [1, 1, 0], [0, 0, 3]]]
        self.gives(told([[[1, 0, 0], [0, 1, 0], [0, 0, 0]], [[0, 0, 0], [0, 0, 0], [0, 0, 1]]]), commuting,
                   house=House(letters))

    def test_by_the_words_of_the_document(self):
        for letters in many_letters(411):
            wanted = plain_leads(letters, letters)
            self.gives(told_tables(wanted, len(letters[0])), commuting, house=House(told(letters)))

    def test_they_commute_with_all_words_and_so_do_products(self):
        for letters in many_letters(412):
            house = House(told(letters))
            found = fractions(commuting(house))
            for word in words_up_to(house.many, 2):
                table = plain_word(letters, word)
                for one in found + [plain_times(found[0], found[-1])]:
                    self.assertEqual(plain_times(table, one), plain_times(one, table))
            self.same(is_commuting(house, told(plain_times(found[0], found[-1]))), True)


class IsCommutingTest(PackageTest):
    def test_commuting(self):
        for house, value in [(LINE, [[5, 0], [0, 7]]), (LINE, ((HALF, 0), (0, Ratio(0)))), (SHIFT, [[3, 9], [0, 3]]),
                             (SHIFT, [[0, 0], [0, 0]]), (FREE, tupled(whole_room(2))), (FREE, [[-2, 0], [0, -2]]),
                             (House([[[0]]]), [[9]]), (House([[[0, 0], [0, 0]]]), [[1, 2], [3, 4]])]:
            self.gives(True, is_commuting, house=house, value=value)

    def test_not_commuting(self):
        for house, value in [(LINE, [[0, 1], [0, 0]]), (SHIFT, [[1, 0], [0, 2]]), (FREE, [[1, 1], [0, 1]]),
                             (LINE, [[1]]), (LINE, whole_room(3)), (House([[[0]]]), whole_room(2))]:
            self.gives(False, is_commuting, house=house, value=value)

    def test_each_letter_counts(self):
        calm, turn = whole_room(2), [[0, 1], [1, 0]]
        for letters in [[turn, calm, calm], [calm, turn, calm], [calm, calm, turn]]:
            self.gives(False, is_commuting, house=House(letters), value=[[1, 0], [0, 2]])
            self.gives(True, is_commuting, house=House(letters), value=[[1, 3], [3, 1]])

    def test_values_of_every_kind(self):
        for value in bad_tables() + [Odd(), [[True]], [[1, 0], [0, True]], [[False, 0], [0, 0]]]:
            self.same(is_commuting(LINE, value), False)
            self.same(is_commuting(value=value, house=LINE), False)


class LeadsTest(PackageTest):
    def test_ordinary(self):
        self.gives(told([[[0, 1], [0, 0]]]), leads, house=LINE, other=SHIFT)
        self.gives(told([[[0, 1], [0, 0]], [[0, 0], [1, 0]]]), leads, house=LINE, other=TURNED)
        self.gives(told([[[1, 0], [0, 0]], [[0, 0], [0, 1]]]), leads, house=LINE, other=LINE)

    def test_nought_alone(self):
        self.gives([], leads, house=House([[[2]]]), other=House([[[3]]]))
        self.gives([], leads, house=FREE, other=House([[[1, 0], [0, 1]]] * 2))
        self.gives([], leads, house=LINE, other=House([[[3, 0], [0, 4]]]))

    def test_from_and_to_are_not_one(self):
        self.gives(told([[[0, 1], [0, 0]]]), leads, house=LINE, other=SHIFT)
        self.gives(told([[[1, 0], [0, 0]]]), leads, house=SHIFT, other=LINE)

    def test_by_the_words_of_the_document(self):
        source = random.Random(421)
        everything = many_letters(422)
        seen = set()
        for letters in everything:
            others = [source.choice([one for one in everything if (len(one), len(one[0])) ==
                                     (len(letters), len(letters[0]))]), letters[::-1], letters[:1] * len(letters)]
            for its in others:
                wanted = plain_leads(letters, its)
                seen.add(len(wanted))
                self.gives(told_tables(wanted, len(letters[0])), leads, house=House(told(letters)),
                           other=House(told(its)))
        self.assertGreater(len(seen), 5)

    def test_to_a_house_led_by_a_table(self):
        source = random.Random(423)
        for letters in some_letters(424, 1):
            table = some_undone(source, len(letters[0]))
            there = bent_letters(letters, table)
            found = leads(House(letters), House(told(there)))
            self.assertEqual(len(found), len(commuting(House(letters))))
            self.gives(True, is_lead, house=House(letters), other=House(told(there)), value=told(plain_undone(table)))

    def test_words_are_led_and_rooms_are_kept(self):
        for letters, _ in some_cornered(425, 1, beside=True):
            others = letters[1:] + letters[:1]
            mine, its = House(told(letters)), House(told(others))
            for lead in fractions(leads(mine, its)):
                for word in words_up_to(len(letters), 2):
                    self.assertEqual(plain_times(plain_word(letters, word), lead),
                                     plain_times(lead, plain_word(others, word)))
                self.assertTrue(plain_kept(letters, plain_kernel([list(one) for one in zip(*lead)], mine.width)))
                self.assertTrue(plain_kept(others, plain_steps(lead)))


class IsLeadTest(PackageTest):
    def test_leads(self):
        for value in [[[0, 3], [0, 0]], ((0, 0), (Ratio(1, 3), 0)), [[0, 0], [0, 0]], [[0, 1], [-1, 0]]]:
            self.gives(True, is_lead, house=LINE, other=TURNED, value=value)

    def test_no_leads(self):
        for value in [[[1, 0], [0, 1]], [[0, 1], [1, 1]], [[0, 1, 0], [0, 0, 0], [0, 0, 0]], [[0]], [[0, 0]]]:
            self.gives(False, is_lead, house=LINE, other=TURNED, value=value)

    def test_from_and_to_are_not_one(self):
        self.gives(True, is_lead, house=LINE, other=SHIFT, value=[[0, 1], [0, 0]])
        self.gives(False, is_lead, house=SHIFT, other=LINE, value=[[0, 1], [0, 0]])

    def test_by_the_words_of_the_document(self):
        source = random.Random(426)
        seen = {True: 0, False: 0}
        for letters in some_letters(427, 6):
            others = letters if source.random() < 0.5 else letters[::-1]
            size = len(letters[0])
            table = source.choice([some_rows(source, size, size), whole_room(size), [[0] * size] * size, letters[0]])
            wanted = plain_is_lead(letters, others, table)
            seen[wanted] += 1
            self.gives(wanted, is_lead, house=House(letters), other=House(others), value=table)
        self.assertGreater(min(seen.values()), 10)

    def test_values_of_every_kind(self):
        for value in bad_tables() + [Odd(), LINE, [[0, 1], [True, 0]], [[False, 0], [0, 0]]]:
            self.same(is_lead(LINE, TURNED, value), False)
            self.same(is_lead(value=value, other=TURNED, house=LINE), False)


class MiddleTest(PackageTest):
    def test_example_of_43(self):
        wanted = told([[[1, 0], [0, 0]], [[0, 0], [0, 1]]])
        self.gives(wanted, middle, house=LINE)
        self.gives(wanted, commuting, house=LINE)

    def test_ordinary(self):
        self.gives(told([[[1, 0], [0, 1]]]), middle, house=FREE)
        self.gives(told([[[1, 0], [0, 1]], [[0, 1], [0, 0]]]), middle, house=SHIFT)
        self.gives(told([[[1, 0], [0, 1]]]), middle, house=House([[[1, 1], [0, 1]], [[1, 0], [0, 2]]]))

    def test_what_commutes_may_be_out_of_the_lot(self):
        calm = House([whole_room(2)])
        self.same(len(commuting(calm)), 4)
        self.gives(told([[[1, 0], [0, 1]]]), middle, house=calm)
        self.gives(told([whole_room(4)]), middle, house=House([whole_room(4), [[0] * 4] * 4]))
        self.gives(told([[[1]]]), middle, house=House([[[3]]]))

    def test_blocks_side_by_side(self):
        letters = [[[1, 1, 0], [0, 1, 0], [0, 0, 7]], [[1, 0, 0], [1, 1, 0], [0, 0, 3]]]
        self.gives(told([[[1, 0, 0], [0, 1, 0], [0, 0, 0]], [[0, 0, 0], [0, 0, 0], [0, 0, 1]]]), middle,
                   house=House(letters))
        twice = [[[1, 1, 0, 0], [0, 1, 0, 0], [0, 0, 1, 1], [0, 0, 0, 1]],
                 [[1, 0, 0, 0], [1, 1, 0, 0], [0, 0, 1, 0], [0, 0, 1, 1]]]
        self.gives(told([whole_room(4)]), middle, house=House(twice))

    def test_by_the_words_of_the_document(self):
        for letters in many_letters(431):
            _, rows = plain_lot(letters)
            wanted = plain_meet(rows, plain_leads(letters, letters))
            self.gives(told_tables(wanted, len(letters[0])), middle, house=House(told(letters)))

    def test_products_of_the_middle_are_in_it(self):
        for letters in many_letters(432):
            house = House(told(letters))
            found = fractions(middle(house))
            rows = [plain_long(one) for one in found]
            for one in found:
                for other in found:
                    both = plain_times(one, other)
                    self.assertEqual(both, plain_times(other, one))
                    self.assertEqual(len(plain_steps(rows + [plain_long(both)])), len(rows))


class LeadErrorsTest(PackageTest):
    def test_wrong_houses(self):
        for value in no_houses():
            for call in [commuting, middle]:
                self.fails_both(InvalidHouse, {"value": value}, call, house=value)
            self.fails_both(InvalidHouse, {"value": value}, is_commuting, house=value, value=[[1]])
            self.fails_both(InvalidHouse, {"value": value}, leads, house=value, other=LINE)
            self.fails_both(InvalidHouse, {"value": value}, leads, house=LINE, other=value)
            self.fails_both(InvalidHouse, {"value": value}, is_lead, house=value, other=LINE, value=[[1]])
            self.fails_both(InvalidHouse, {"value": value}, is_lead, house=LINE, other=value, value=[[1]])

    def test_unlike_letters_and_sizes(self):
        one, three = House([[[1]]]), House([[[1]]] * 3)
        for mine, its in [(FREE, LINE), (LINE, FREE), (one, three), (FREE, one), (one, FREE)]:
            self.fails_both(UnlikeLetters, {}, leads, house=mine, other=its)
            self.fails_both(UnlikeLetters, {}, is_lead, house=mine, other=its, value="odd")
        for mine, its in [(LINE, one), (one, LINE), (three, House([whole_room(4)] * 3))]:
            self.fails_both(UnlikeSizes, {}, leads, house=mine, other=its)
            self.fails_both(UnlikeSizes, {}, is_lead, house=mine, other=its, value=None)

    def test_first_error(self):
        self.fails(InvalidHouse, {"value": "a"}, leads, other="b", house="a")
        self.fails(InvalidHouse, {"value": "b"}, is_lead, LINE, "b", "c")
        self.fails(InvalidHouse, {"value": True}, is_commuting, True, True)

    def test_what_is_returned_is_new(self):
        found = leads(LINE, TURNED)
        found[0][0][0] = 5
        found.pop()
        self.gives(told([[[0, 1], [0, 0]], [[0, 0], [1, 0]]]), leads, house=LINE, other=TURNED)


if __name__ == "__main__":
    unittest.main()
