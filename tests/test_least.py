"""[73] Alike machines, [74] What ends tells apart, [75] The least machine, [76] when a machine is least."""
import functools
import random
import unittest
from fractions import Fraction

from tests.helper import (PackageTest, edge_letters, fractions, plain_kernel, plain_led, plain_rank, plain_undone,
                          some_cornered, some_undone, told, whole_room, words_up_to)
from tests.test_houses import some_letters
from tests.test_lots import plain_made, plain_more
from tests.test_machines import DULL, PAIRS, WIDE, no_machines, plain_worth, some_machines
from tracewords.alike import alike_sums, unlike_word
from tracewords.errors import InvalidMachine, UnlikeLetters
from tracewords.houses import House, led_house
from tracewords.least import is_least, least_machine, state_words, unlike_by
from tracewords.machines import Machine, house_machine, sum_machine
from tracewords.ratios import Ratio
from tracewords.sums import sums_rank

HALF = Ratio(1, 2)
FADING = house_machine(House([[[0, 1], [0, 0]]]))


def cycle(states, last=1):
    """A machine of one letter that goes round its states; the way back has this number."""
    table = [[int(place == at + 1) for place in range(states)] for at in range(states)]
    table[-1][0] = last
    return Machine([1] + [0] * (states - 1), [table], [0] * (states - 1) + [1])


def started(start, tables, word):
    """What the start is led to by the word, of Fractions."""
    row = fractions(start)
    for at in word:
        row = plain_led(row, tables[at]) if row else []
    return row


def untold(tables, ends):
    """The steps of the lists that no word tells apart from nought: words shorter than the states are enough."""
    wide = len(ends)
    lists = []
    for word in words_up_to(len(tables), max(wide - 1, 0)):
        lists.append([plain_worth([int(at == place) for at in range(wide)], tables, ends, word)
                      for place in range(wide)])
    return plain_kernel(lists, wide)


def plain_state_words(start, tables, ends):
    """The state words by the document's words: those that what is untold and the words ahead don't make."""
    found, rows = [], untold(tables, ends)
    for word in words_up_to(len(tables), len(ends)):
        more = plain_more(rows, started(start, tables, word))
        if len(more) > len(rows):
            found.append(word)
        rows = more
    return found


@functools.lru_cache(maxsize=None)
def known():
    """Tuples of start, letters and ends of machines with few states, and their state words."""
    source = random.Random(731)
    machines = [one for one in some_machines(732) + some_machines(733) if len(one[0]) < 4]
    for start, tables, ends in list(machines):
        wide = len(start)
        if wide > 1:
            # States that nothing reaches, states that ends never tell, and both behind another base.
            closed = [[row[:-1] + [0] for row in table[:-1]] + [table[-1]] for table in tables]
            machines.append((start[:-1] + [0], closed, ends))
            blind = [table[:-1] + [[0] * (wide - 1) + table[-1][-1:]] for table in tables]
            machines.append((start, blind, ends[:-1] + [0]))
            machines.append((start, tables, [0] * wide))
            machines.append(([0] * wide, tables, ends))
    machines += [bent(source, *one) for one in machines if one[0]]
    return [(one, plain_state_words(*one)) for one in machines]


def bent(source, start, tables, ends):
    """The machine told by other rows: it tells the same."""
    table = fractions(some_undone(source, len(start)))
    back = plain_undone(table)
    rows = [[plain_led(plain_led(row, one), back) for row in table] for one in tables]
    return told(plain_led(start, back)), told(rows), told([sum_of(row, ends) for row in table])


def sum_of(row, ends):
    """The sum of products, place by place."""
    return sum((mine * its for mine, its in zip(fractions(row), fractions(ends))), start=Fraction(0))


def nearly(source, machine):
    """Machines that have one number of a letter other than this one, which has few states."""
    start, tables, ends = machine
    found = []
    for _ in range(4 if 1 < len(start) < 3 else 0):
        its = [[list(row) for row in table] for table in tables]
        source.choice(source.choice(its))[-1] = source.choice([0, 1, 5])
        found.append((start, its, ends))
    return found


class StateWordsTest(PackageTest):
    def test_ordinary(self):
        self.gives([[], [0]], state_words, machine=PAIRS)
        self.gives([[]], state_words, machine=FADING)
        self.gives([], state_words, machine=Machine([1], [[[5]]], [0]))
        self.gives([], state_words, machine=Machine([0], [[[5]]], [1]))
        self.gives([[]], state_words, machine=Machine([2], [[[0]]], [HALF]))

    def test_the_empty_word_may_be_none_but_then_all_are_none(self):
        # Each beginning of a state word is one: of none ahead only noughts are made.
        self.gives([[], [0]], state_words, machine=Machine([1, 0], [[[0, 1], [0, 0]]], [0, 1]))
        self.gives([], state_words, machine=Machine([0, 1], [[[0, 1], [0, 0]]], [1, 0]))

    def test_words_stand_by_length_then_in_order(self):
        machine = Machine([1, 0, 0], [[[0, 0, 0]] * 3, [[0, 1, 0], [0, 0, 1], [0, 0, 0]]], [1, 2, 4])
        self.gives([[], [1], [1, 1]], state_words, machine=machine)
        machine = Machine([1, 0, 0], [[[0, 0, 1], [0, 0, 0], [0, 0, 0]], [[0, 1, 0], [0, 0, 0], [0, 0, 0]]], [0, 1, 2])
        self.gives([[], [0]], state_words, machine=machine)

    def test_no_states_and_sixteen(self):
        for many in (1, 2, 3):
            self.gives([], state_words, machine=Machine([], [[]] * many, []))
        self.gives([[]], state_words, machine=WIDE)
        self.gives([[0] * many for many in range(16)], state_words, machine=cycle(16))

    def test_by_the_words_of_the_document(self):
        seen = set()
        for one, words in known():
            seen.add((len(one[0]), len(words)))
            self.gives(words, state_words, machine=Machine(*one))
            for word in words:
                self.assertTrue(not word or word[:-1] in words)
        self.assertTrue({(2, 0), (2, 1), (2, 2), (3, 1), (3, 2), (3, 3), (0, 0)} <= seen, seen)


class LeastMachineTest(PackageTest):
    def test_ordinary(self):
        self.gives(Machine([1], [[[0]]], [2]), least_machine, machine=FADING)
        self.gives(Machine([1, 0], [[[0, 1], [1, 1]]], [1, 1]), least_machine, machine=PAIRS)
        self.gives(Machine([], [[]], []), least_machine, machine=Machine([1], [[[5]]], [0]))
        self.gives(Machine([1], [[[5]], [[HALF]]], [6]), least_machine, machine=Machine([2], [[[5]], [[HALF]]], [3]))

    def test_no_states(self):
        for many in (1, 2, 3):
            nought = Machine([], [[]] * many, [])
            self.gives(nought, least_machine, machine=nought)
            self.gives(nought, least_machine, machine=Machine([0, 0], [whole_room(2)] * many, [1, 1]))
            self.gives(nought, least_machine, machine=Machine([1, 1], [whole_room(2)] * many, [0, 0]))
            self.gives(nought, least_machine, machine=Machine([1, 1], [whole_room(2)] * many, [1, -1]))

    def test_sixteen_states(self):
        self.gives(Machine([1], [[[1]]], [16]), least_machine, machine=WIDE)
        found = least_machine(cycle(16))
        self.same(found.states, 16)
        self.same(found, cycle(16))
        self.same(least_machine(cycle(16, 0)).states, 16)
        late = Machine([0] * 15 + [1], cycle(16, 0).tables(), [0] * 15 + [1])
        self.same(least_machine(late), Machine([1], [[[0]]], [1]))

    def test_by_the_words_of_the_document(self):
        for (start, tables, ends), words in known():
            machine = Machine(start, tables, ends)
            found = least_machine(machine)
            self.gives(found, least_machine, machine=machine)
            self.same(found.start(), told([int(word == []) for word in words]))
            self.same(found.ends(), told([plain_worth(start, tables, ends, word) for word in words]))
            rows, lost = [started(start, tables, word) for word in words], untold(tables, ends)
            for at, table in enumerate(fractions(found.tables())):
                self.assertEqual(len(table), len(words))
                for word, numbers in zip(words, table):
                    left = started(start, tables, word + [at])
                    for by, row in zip(numbers, rows):
                        left = [mine - by * its for mine, its in zip(left, row)]
                    self.assertTrue(plain_made(lost, left), (start, tables, ends, word))

    def test_it_tells_the_same_with_the_fewest_states(self):
        for (start, tables, ends), _ in known():
            found = least_machine(Machine(start, tables, ends))
            words = words_up_to(len(tables), 3)
            for word in words:
                self.same(found.worth(word), told(plain_worth(start, tables, ends, word)))
            # A machine with k states has worths of joined words that make a table of at most k free rows.
            short = words_up_to(len(tables), 2)
            worths = [[plain_worth(start, tables, ends, mine + its) for its in short] for mine in short]
            self.assertEqual(plain_rank(worths), found.states)

    def test_machines_that_tell_the_same_have_one_least_machine(self):
        source = random.Random(751)
        for one, _ in known():
            machine = Machine(*one)
            least = least_machine(machine)
            self.same(least_machine(least), least)
            self.same(least_machine(sum_machine(machine, Machine([0], [[[3]]] * machine.many, [1]))), least)
            if one[0]:
                self.same(least_machine(Machine(*bent(source, *one))), least)
                halved = Machine([HALF * number for number in one[0]], one[1], one[2])
                self.same(least_machine(sum_machine(halved, halved)), least)

    def test_house_machines(self):
        for letters in edge_letters() + some_letters(752, 1) + [one for one, _ in some_cornered(753, 1)]:
            house = House(told(letters))
            machine = house_machine(house)
            found = least_machine(machine)
            self.same(found.states, sums_rank(house))
            for word in words_up_to(house.many, 2) + [[house.many - 1] * 5]:
                self.same(found.worth(word), house.word_sum(word))

    def test_houses_led_elsewhere(self):
        source = random.Random(754)
        for letters in edge_letters():
            house = House(letters)
            other = led_house(house, some_undone(source, house.width))
            self.same(least_machine(house_machine(other)), least_machine(house_machine(house)))

    def test_what_was_passed_stays(self):
        machine = Machine([1, 0], [[[1, 1], [1, 0]]], (1, 0))
        for call in [least_machine, state_words, is_least]:
            call(machine)
        unlike_by(machine, machine)
        self.same(machine, PAIRS)
        words = state_words(machine)
        words[1].append(5)
        words.pop()
        self.gives([[], [0]], state_words, machine=machine)


class IsLeastTest(PackageTest):
    def test_ordinary(self):
        self.gives(True, is_least, machine=PAIRS)
        self.gives(False, is_least, machine=FADING)
        self.gives(True, is_least, machine=DULL)
        self.gives(False, is_least, machine=Machine([1], [[[5]]], [0]))
        self.gives(False, is_least, machine=Machine([0], [[[5]]], [2]))
        self.gives(True, is_least, machine=Machine([3], [[[0]]], [2]))
        self.gives(False, is_least, machine=WIDE)
        self.gives(True, is_least, machine=cycle(16))
        self.gives(False, is_least, machine=sum_machine(PAIRS, PAIRS))

    def test_by_the_words_of_the_document(self):
        seen = []
        for one, words in known():
            machine = Machine(*one)
            seen.append(len(words) == len(one[0]))
            self.gives(seen[-1], is_least, machine=machine)
            self.same(is_least(least_machine(machine)), True)
        self.assertTrue(min(seen.count(True), seen.count(False)) > 20)

    def test_house_machines(self):
        self.gives(True, is_least, machine=house_machine(House([[[7]]])))
        self.gives(True, is_least, machine=house_machine(House([[[1, 1], [0, 1]], [[1, 0], [1, 1]]])))
        self.gives(False, is_least, machine=house_machine(House([[[1, 1], [0, 1]], [[1, 0], [0, 2]]])))


class UnlikeByTest(PackageTest):
    def test_ordinary(self):
        self.gives([0, 0], unlike_by, machine=PAIRS, other=Machine([1], [[[1]]], [1]))
        self.gives(None, unlike_by, machine=PAIRS, other=least_machine(PAIRS))
        self.gives([], unlike_by, machine=PAIRS, other=DULL)
        self.gives([], unlike_by, machine=DULL, other=PAIRS)
        self.gives(None, unlike_by, machine=DULL, other=DULL)
        self.gives(None, unlike_by, machine=DULL, other=Machine([0, 0], [whole_room(2)], [1, 1]))
        self.gives([0], unlike_by, machine=Machine([1], [[[2]]], [1]), other=Machine([1], [[[3]]], [1]))
        self.gives([1], unlike_by, machine=Machine([1], [[[2]], [[2]]], [1]), other=Machine([1], [[[2]], [[0]]], [1]))

    def test_words_stand_by_length_then_in_order(self):
        nought, one = [[0, 0], [0, 0]], [[0, 1], [0, 0]]
        mine = Machine([1, 0], [one, one], [0, 1])
        self.gives([0], unlike_by, machine=mine, other=Machine([], [[], []], []))
        self.gives([1], unlike_by, machine=mine, other=Machine([1, 0], [one, nought], [0, 1]))
        chain = [[0, 1, 0], [0, 0, 1], [0, 0, 0]]
        none = [[0] * 3] * 3
        mine = Machine([1, 0, 0], [chain, chain], [0, 0, 1])
        self.gives([0, 0], unlike_by, machine=mine, other=Machine([1, 0, 0], [none, chain], [0, 0, 1]))
        split = Machine([1, 0, 0], [[[0, 1, 0], [0, 0, 1], [0, 0, 0]], [[0, 0, 0], [0, 0, 1], [0, 0, 0]]], [0, 0, 1])
        self.gives([1, 0], unlike_by, machine=mine, other=split)

    def test_words_longer_than_a_word(self):
        self.gives([0] * 31, unlike_by, machine=cycle(16), other=cycle(16, -1))
        self.gives([0] * 17, unlike_by, machine=cycle(9, 2), other=cycle(9, 3))

    def test_by_the_words_of_the_document(self):
        seen = {}
        machines = [one for one, _ in known()]
        source = random.Random(734)
        for mine in machines:
            like = [one for one in machines if len(one[1]) == len(mine[1]) and len(one[0]) + len(mine[0]) < 6]
            for its in [source.choice(like), source.choice(like), *nearly(source, mine)]:
                words = words_up_to(len(mine[1]), max(len(mine[0]) + len(its[0]) - 1, 0))
                found = [word for word in words if plain_worth(*mine, word) != plain_worth(*its, word)]
                wanted = found[0] if found else None
                seen[None if wanted is None else len(wanted)] = True
                self.gives(wanted, unlike_by, machine=Machine(*mine), other=Machine(*its))
        self.assertTrue({None, 0, 1, 2} <= set(seen), seen)

    def test_machines_that_differ_at_one_late_word(self):
        for many in (1, 2):
            for length in (0, 1, 2, 5):
                source = random.Random(735 + length)
                word = [source.randrange(many) for _ in range(length)]
                tables = [[[int(place == at + 1 and letter == word[at]) if at < length else 0
                            for place in range(length + 1)] for at in range(length + 1)] for letter in range(many)]
                late = Machine([1] + [0] * length, tables, [0] * length + [1])
                one = Machine([1, 1], [[[2, 1], [0, 1]]] * many, [1, HALF])
                self.gives(word, unlike_by, machine=one, other=sum_machine(one, late))
                self.gives(word, unlike_by, machine=sum_machine(late, one), other=one)

    def test_two_machines_tell_the_same_exactly_if_their_least_machines_are_equal(self):
        source = random.Random(736)
        machines = [Machine(*one) for one, _ in known()]
        for mine in machines:
            its = source.choice([one for one in machines if one.many == mine.many])
            self.same(unlike_by(mine, its) is None, least_machine(mine) == least_machine(its))
            self.same(unlike_by(mine, least_machine(mine)), None)
            self.same(unlike_by(sum_machine(mine, mine), mine) is None, least_machine(mine).states == 0)

    def test_house_machines(self):
        source = random.Random(737)
        every = [House(told(one)) for one in edge_letters()] + [House(told(one)) for one in some_letters(738, 1)]
        for house in every:
            other = source.choice([one for one in every if one.many == house.many])
            found = unlike_by(house_machine(house), house_machine(other))
            self.same(found, unlike_word(house, other))
            self.same(found is None, alike_sums(house, other))
            led = led_house(house, some_undone(source, house.width))
            self.gives(None, unlike_by, machine=house_machine(house), other=house_machine(led))

    def test_sixteen_states_each(self):
        self.gives(None, unlike_by, machine=WIDE, other=least_machine(WIDE))
        self.gives(None, unlike_by, machine=cycle(16), other=cycle(16))
        self.gives([], unlike_by, machine=cycle(16), other=WIDE)


class LeastErrorsTest(PackageTest):
    def test_wrong_machines(self):
        for value in no_machines():
            for call in [least_machine, is_least, state_words]:
                self.fails_both(InvalidMachine, {"value": value}, call, machine=value)
            self.fails_both(InvalidMachine, {"value": value}, unlike_by, machine=value, other=PAIRS)
            self.fails_both(InvalidMachine, {"value": value}, unlike_by, machine=PAIRS, other=value)

    def test_unlike_letters(self):
        two = Machine([], [[], []], [])
        for mine, its in [(PAIRS, two), (two, PAIRS), (DULL, two), (WIDE, Machine([1], [[[1]]] * 3, [1]))]:
            self.fails_both(UnlikeLetters, {}, unlike_by, machine=mine, other=its)

    def test_first_error(self):
        self.fails(InvalidMachine, {"value": "a"}, unlike_by, other="b", machine="a")
        self.fails(InvalidMachine, {"value": "b"}, unlike_by, Machine([], [[], []], []), "b")


if __name__ == "__main__":
    unittest.main()
