"""[63] Changes, [64] Papers."""
import random
import unittest

from tests.helper import (Odd, PackageTest, bent_letters, edge_letters, fractions, plain_rank, some_cornered, some_rows,
                          some_undone, told, tupled, whole_room)
from tests.test_alike import turned
from tests.test_houses import no_houses, some_letters
from tests.test_leads import plain_is_lead
from tests.test_tables import bad_tables
from tracewords.alike import alike_sums, is_unlike_word, unlike_word
from tracewords.changes import change, is_change
from tracewords.errors import InvalidHouse, NotParted, TooMany, UnlikeLetters
from tracewords.houses import House, led_house, side
from tracewords.leads import leads
from tracewords.ratios import Ratio
from tracewords.sums import parts
from tracewords.tables import undone

SWAP, DOUBLE = [[0, 1], [1, 0]], [[1, 0], [0, 2]]
HERE, THERE = House([DOUBLE, SWAP]), House([[[2, 0], [0, 1]], SWAP])
TWO, THREE = House([[[2]]]), House([[[3]]])
BENT = House([[[1, 1], [0, 1]]])
NOUGHT, SHIFT = House([[[0, 0], [0, 0]]]), House([[[0, 1], [0, 0]]])


def on_line(*numbers):
    """The table with these numbers on its line, and 0 elsewhere."""
    return [[number if at == place else 0 for place in range(len(numbers))] for at, number in enumerate(numbers)]


def plain_is_change(letters, others, table):
    """Whether X T is T Y for all letters, and T can be undone."""
    return plain_is_lead(letters, others, table) and plain_rank(fractions(table)) == len(table)


def some_parted(seed):
    """Letters of houses that part."""
    every = edge_letters() + some_letters(seed, 1) + [one for one, _ in some_cornered(seed, 2, beside=True)]
    return [letters for letters in every if parts(House(told(letters)))]


class ChangeTest(PackageTest):
    def check(self, mine, its):
        """There is a change, or an unlike word, and never both; of more than six leads none is told."""
        house, other = House(told(mine)), House(told(its))
        alike = alike_sums(house, other)
        if alike and len(leads(house, other)) > 6:
            self.fails_both(TooMany, {"what": "leads", "limit": 6}, change, house=house, other=other)
            return None
        found = change(house, other)
        self.gives(found, change, house=house, other=other)
        self.assertEqual(found is not None, alike)
        if alike:
            self.same(found, told(fractions(found)))
            self.assertTrue(plain_is_change(mine, its, found))
            self.gives(True, is_change, house=house, other=other, value=found)
            self.gives(True, is_change, house=other, other=house, value=undone(found))
        else:
            self.same(is_unlike_word(house, other, unlike_word(house, other)), True)
        return alike

    def test_ordinary(self):
        self.assertEqual(self.check(HERE.letters(), THERE.letters()), True)
        self.gives(None, change, house=TWO, other=THREE)
        self.gives(told([[1]]), change, house=TWO, other=TWO)
        self.gives(None, change, house=House([SWAP]), other=House([whole_room(2)]))

    def test_sizes_are_unlike(self):
        self.gives(None, change, house=TWO, other=House([[[2, 0], [0, 2]]]))
        self.gives(None, change, house=House([whole_room(4)]), other=House([whole_room(3)]))

    def test_with_itself_and_led(self):
        source = random.Random(631)
        seen = set()
        for letters in some_parted(632):
            size = len(letters[0])
            for its in [letters, bent_letters(letters, some_undone(source, size)), turned(letters)]:
                seen.add(self.check(letters, its))
        self.assertEqual(seen, {True, None})

    def test_any(self):
        source = random.Random(633)
        every = some_parted(634)
        seen = {True: 0, False: 0, None: 0}
        for letters in every:
            like = [one for one in every if len(one) == len(letters)]
            for its in [source.choice(like), source.choice(like), letters[::-1]]:
                seen[self.check(letters, its)] += 1
        self.assertGreater(seen[False], 20)

    def test_blocks_in_another_sequence(self):
        first, second = House([[[1, 1], [0, 1]], [[1, 0], [1, 1]]]), House([[[3]], [[-1]]])
        self.check(side(first, second).letters(), side(second, first).letters())
        self.check(side(HERE, first).letters(), side(first, THERE).letters())

    def test_six_leads_and_more(self):
        source = random.Random(635)
        for numbers, many in [((1, 2, 3, 4), 4), ((1, 2, 2), 5), ((1, 2, 3, 3), 6), ((3, 1, 3, 2), 6)]:
            mine = bent_letters([on_line(*numbers)], some_undone(source, len(numbers)))
            its = bent_letters([on_line(*numbers[::-1])], some_undone(source, len(numbers)))
            self.assertEqual(len(leads(House(told(mine)), House(told(its)))), many)
            self.assertEqual(self.check(mine, its), True)
        for numbers in [(1, 1, 2, 2), (5, 5, 5), (1, 2, 2, 2)]:
            mine, its = House([on_line(*numbers)]), House([on_line(*numbers[::-1])])
            self.assertGreater(len(leads(mine, its)), 6)
            self.fails_both(TooMany, {"what": "leads", "limit": 6}, change, house=mine, other=its)

    def test_more_than_six_leads_of_unlike_sums(self):
        mine, its = House([on_line(1, 1, 1, 2)]), House([on_line(1, 1, 1, 3)])
        self.assertGreater(len(leads(mine, its)), 6)
        self.gives(None, change, house=mine, other=its)

    def test_single_leads_cannot_be_undone(self):
        mine, its = House([on_line(1, 2, 3, 4)]), House([on_line(4, 3, 2, 1)])
        for lead in leads(mine, its):
            self.same(is_change(mine, its, lead), False)
        self.assertEqual(self.check(mine.letters(), its.letters()), True)

    def test_sums_of_leads_that_cannot_be_undone(self):
        # What commutes with the letter is (a b, 2b a + b): no sum of both can be undone where (a - b)(a + 2b) is 0.
        mine = House([[[0, 1], [2, 1]]])
        table = [[1, 0], [1, 1]]
        self.assertEqual(self.check(mine.letters(), led_house(mine, table).letters()), True)
        self.assertEqual(self.check(mine.letters(), mine.letters()), True)

    def test_not_parted(self):
        for mine, its in [(BENT, House([whole_room(2)])), (House([whole_room(2)]), BENT), (BENT, BENT),
                          (NOUGHT, SHIFT), (SHIFT, NOUGHT), (BENT, TWO), (TWO, BENT),
                          (House([on_line(1, 1, 1)]), House([[[1, 0, 0], [0, 1, 0], [1, 0, 1]]]))]:
            self.fails_both(NotParted, {}, change, house=mine, other=its)


class IsChangeTest(PackageTest):
    def test_changes(self):
        for value in [SWAP, ((0, 1), (1, 0)), [[0, Ratio(1, 3)], [Ratio(1, 3), 0]], [[0, -2], [-2, 0]]]:
            self.gives(True, is_change, house=HERE, other=THERE, value=value)
        self.gives(True, is_change, house=HERE, other=led_house(HERE, [[1, 1], [0, 1]]), value=[[1, -1], [0, 1]])
        self.gives(True, is_change, house=TWO, other=TWO, value=[[Ratio(-5, 7)]])

    def test_no_changes(self):
        for value in [[[1, 0], [0, 1]], [[0, 0], [0, 0]], [[0, 1], [2, 0]], [[1]], whole_room(3)]:
            self.gives(False, is_change, house=HERE, other=THERE, value=value)
        self.gives(False, is_change, house=HERE, other=led_house(HERE, [[1, 1], [0, 1]]), value=[[1, 1], [0, 1]])
        self.gives(False, is_change, house=TWO, other=THREE, value=[[1]])

    def test_leads_that_cannot_be_undone(self):
        line = House([DOUBLE])
        for value in [[[1, 0], [0, 0]], [[0, 0], [0, 5]], [[0, 0], [0, 0]]]:
            self.gives(False, is_change, house=line, other=line, value=value)
        self.gives(True, is_change, house=line, other=line, value=[[1, 0], [0, 5]])

    def test_houses_that_do_not_part(self):
        self.gives(True, is_change, house=BENT, other=BENT, value=[[2, 7], [0, 2]])
        self.gives(False, is_change, house=BENT, other=BENT, value=[[2, 7], [0, 1]])
        self.gives(True, is_change, house=BENT, other=House([[[1, 0], [1, 1]]]), value=SWAP)

    def test_alike_sums_and_no_change(self):
        self.same(alike_sums(NOUGHT, SHIFT), True)
        self.same(unlike_word(SHIFT, NOUGHT), None)
        source = random.Random(636)
        for _ in range(40):
            for value in [some_rows(source, 2, 2), told(some_undone(source, 2))]:
                self.gives(False, is_change, house=NOUGHT, other=SHIFT, value=value)
                self.gives(False, is_change, house=SHIFT, other=NOUGHT, value=value)
        self.fails_both(NotParted, {}, change, house=NOUGHT, other=SHIFT)

    def test_sizes_are_unlike(self):
        for value in [[[1]], whole_room(2), SWAP, [], [[1, 0]]]:
            self.gives(False, is_change, house=TWO, other=House([[[2, 0], [0, 2]]]), value=value)
            self.gives(False, is_change, house=House([[[2, 0], [0, 2]]]), other=TWO, value=value)

    def test_by_the_words_of_the_document(self):
        source = random.Random(637)
        seen = {True: 0, False: 0}
        for letters in edge_letters() + some_letters(638, 1):
            size = len(letters[0])
            table = some_undone(source, size)
            others = bent_letters(letters, table)
            for value in [table, fractions(undone(told(table))), whole_room(size), some_undone(source, size)]:
                wanted = plain_is_change(letters, others, value)
                seen[wanted] += 1
                self.same(is_change(House(letters), House(told(others)), told(value)), wanted)
        self.assertGreater(min(seen.values()), 20)

    def test_values_of_every_kind(self):
        for value in bad_tables() + [Odd(), HERE, [[0, True], [True, 0]], [[False, 1], [1, 0]]]:
            self.same(is_change(HERE, THERE, value), False)
            self.same(is_change(value=value, other=THERE, house=HERE), False)


class ChangeErrorsTest(PackageTest):
    def test_wrong_houses(self):
        for value in no_houses():
            self.fails_both(InvalidHouse, {"value": value}, change, house=value, other=TWO)
            self.fails_both(InvalidHouse, {"value": value}, change, house=TWO, other=value)
            self.fails_both(InvalidHouse, {"value": value}, is_change, house=value, other=TWO, value=[[1]])
            self.fails_both(InvalidHouse, {"value": value}, is_change, house=TWO, other=value, value=[[1]])

    def test_unlike_letters(self):
        for mine, its in [(HERE, TWO), (TWO, HERE), (House([SWAP] * 3), HERE)]:
            self.fails_both(UnlikeLetters, {}, change, house=mine, other=its)
            self.fails_both(UnlikeLetters, {}, is_change, house=mine, other=its, value="odd")

    def test_first_error(self):
        self.fails(InvalidHouse, {"value": "a"}, change, other="b", house="a")
        self.fails(InvalidHouse, {"value": "b"}, is_change, TWO, "b", "c")
        self.fails(UnlikeLetters, {}, change, BENT, House([[[1, 1], [0, 1]]] * 2))
        self.fails(UnlikeLetters, {}, change, House([on_line(5, 5, 5)]), House([on_line(5, 5, 5)] * 2))
        # Both do not part, and there are four leads or more: TooMany stands last.
        calm = [on_line(1, 1, 1, 1)]
        bent = [[[1, 1, 0, 0], [0, 1, 0, 0], [0, 0, 1, 0], [0, 0, 0, 1]]]
        self.assertGreater(len(leads(House(bent), House(bent))), 6)
        self.fails(NotParted, {}, change, House(bent), House(bent))
        self.fails(NotParted, {}, change, House(calm), House(bent))

    def test_what_is_returned_is_new(self):
        found = change(HERE, THERE)
        found.clear()
        self.same(is_change(HERE, THERE, change(house=HERE, other=THERE)), True)
        self.same(is_change(HERE, THERE, tupled(change(HERE, THERE))), True)


if __name__ == "__main__":
    unittest.main()
