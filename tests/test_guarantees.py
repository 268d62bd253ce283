"""[4] What holds for the program as a whole."""
import random
import unittest

from tests.helper import (PackageTest, bent_letters, edge_letters, fractions, some_cornered, some_rows, some_undone,
                          told, words_up_to)
from tests.test_houses import some_letters
from tests.test_lots import plain_made
from tracewords.alike import alike_sums, is_unlike_word, unlike_word
from tracewords.changes import change, is_change
from tracewords.errors import TooMany
from tracewords.houses import House
from tracewords.leads import commuting, leads
from tracewords.least import least_machine
from tracewords.lots import base_words, every_table, is_closed, is_mixture_of, lot_rows, mixture_of, table_by
from tracewords.machines import house_machine
from tracewords.nil import nil_mixture, nil_room
from tracewords.partners import is_partner, partner
from tracewords.rooms import images, is_room, least_room, noughts
from tracewords.solved import steps
from tracewords.sums import parts, sums_rank, sums_table
from tracewords.tables import from_long, long_row, sum_on, times


def houses():
    """Houses of each size and each number of letters, at the edges, that keep rooms, and any."""
    every = edge_letters() + some_letters(41, 1) + [one for one, _ in some_cornered(42, 1)]
    every += [one for one, _ in some_cornered(43, 1, beside=True)]
    return [House(told(letters)) for letters in every]


class GuaranteesTest(PackageTest):
    def test_made_or_not(self):
        source = random.Random(44)
        for house in houses():
            closed = lot_rows(house)
            self.assertTrue(is_closed(house, closed))
            size = house.width
            self.assertEqual(every_table(house), len(base_words(house)) == size * size)
            tables = [from_long(row) for row in closed] + [some_rows(source, size, size) for _ in range(2)]
            for table in tables:
                mixture = mixture_of(house, table)
                held = plain_made(fractions(closed), fractions(long_row(table)))
                self.assertEqual(mixture is not None, held)
                if mixture is not None:
                    self.assertTrue(is_mixture_of(house, table, mixture))

    def test_partners(self):
        for house in houses():
            sums = sums_table(house)
            self.assertEqual(parts(house), sums_rank(house) == len(sums))
            if parts(house):
                self.assertIsNone(nil_mixture(house))
                for room in self.rooms(house):
                    self.assertTrue(is_partner(house, room, partner(house, room)))
            else:
                nil = table_by(house, nil_mixture(house))
                self.assertTrue(any(number.sign for number in long_row(nil)))
                for word in words_up_to(house.many, 3):
                    self.assertEqual(sum_on(times(nil, house.table(word))).sign, 0)
                self.assertTrue(is_room(house, nil_room(house)))
                self.assertIsNone(partner(house, nil_room(house)))

    def rooms(self, house):
        """Rooms that the house keeps."""
        source = random.Random(45)
        found = [[], least_room(house, some_rows(source, 1, house.width)), least_room(house, [[1] * house.width])]
        for table in commuting(house)[:3]:
            found += [noughts(house, table), images(house, table)]
        self.assertTrue(all(is_room(house, room) for room in found))
        return found

    def test_alike(self):
        source = random.Random(46)
        every = [house for house in houses() if parts(house)]
        for house in every:
            other = source.choice([one for one in every if one.many == house.many])
            bent = House(told(bent_letters(house.letters(), some_undone(source, house.width))))
            for its in (other, bent):
                word = unlike_word(house, its)
                self.assertEqual(alike_sums(house, its), word is None)
                if word is not None:
                    self.assertTrue(is_unlike_word(house, its, word))
                    self.assertIsNone(change(house, its))
                elif len(leads(house, its)) > 6:
                    self.assertRaises(TooMany, change, house, its)
                else:
                    self.assertTrue(is_change(house, its, change(house, its)))

    def test_all_sums(self):
        for house in houses():
            machine = least_machine(house_machine(house))
            self.assertEqual(machine.states, sums_rank(house))
            for word in words_up_to(house.many, 3):
                self.same(machine.worth(word), house.word_sum(word))

    def test_numbers_count_by_their_worth(self):
        for letters in edge_letters():
            self.assertEqual(base_words(House(letters)), base_words(House(told(letters))))
            self.same(lot_rows(House(letters)), lot_rows(House(told(letters))))
            self.same(steps(letters[0]), steps(told(letters[0])))


if __name__ == "__main__":
    unittest.main()
