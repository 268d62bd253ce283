"""[71] Machines, [72] A house's machine."""
import random
import unittest

from tests.helper import (Odd, PackageTest, edge_letters, fractions, no_lists, no_numbers, plain_idle, plain_led,
                          plain_long, plain_sum, plain_times, plain_word, some_rows, spoiled, told, tupled, whole_room,
                          words_up_to)
from tests.test_houses import bad_words, no_houses, some_letters
from tracewords.errors import (InvalidEnds, InvalidHouse, InvalidMachine, InvalidStart, InvalidTables, InvalidWord,
                               TooMany, UnlikeLetters)
from tracewords.houses import House
from tracewords.machines import Machine, house_machine, sum_machine
from tracewords.ratios import Ratio

HALF = Ratio(1, 2)
PAIRS = Machine([1, 0], [[[1, 1], [1, 0]]], (1, 0))
DULL = Machine([], [[]], [])
WIDE = Machine([1] * 16, [whole_room(16)], [1] * 16)


def no_machines():
    """Values that are no Machine."""
    return no_lists() + [[], [1, 0], Machine, Odd(), ([1], [[[1]]], [1]), [PAIRS]]


def bad_starts():
    """Values that are no start."""
    found = no_lists() + [[one] for one in no_numbers()] + [[0, one, 1] for one in no_numbers()]
    return found + [[0] * 17, (1,) * 17] + spoiled([1, 0]) + spoiled((1, 0, 2))


def bad_tables(states):
    """Values that are no letters of a machine with so many states, two or three."""
    good = whole_room(states)
    found = no_lists() + [[], (), [good] * 4, good, [good[1:]], [good + [good[0]]], [[row[1:] for row in good]], [[]]]
    found += [[good, whole_room(states - 1)], [whole_room(states + 1), good], [good, good[:-1] + [[0]]], [good, []]]
    found += [[one] for one in no_lists()] + [[good, one] for one in no_lists()] + [[one, good] for one in no_lists()]
    return found + spoiled([good, good]) + spoiled(tupled([good, good, good]))


def some_machines(seed):
    """Tuples of start, letters and ends with small numbers."""
    source = random.Random(seed)
    found = []
    for states in (0, 1, 2, 3, 5):
        for many in (1, 2, 3):
            start, ends = some_rows(source, 2, states) if states else ([], [])
            found.append((start, [some_rows(source, states, states) for _ in range(many)], ends))
    return found


def plain_worth(start, tables, ends, word):
    """The worth of the word, of Fractions."""
    row = fractions(start)
    for at in word:
        row = plain_led(row, tables[at]) if row else []
    return sum((mine * its for mine, its in zip(row, fractions(ends))), start=fractions(0))


class MakingTest(PackageTest):
    def test_parts(self):
        for start, tables, ends in some_machines(711):
            machine = Machine(start, tables, ends)
            self.same((machine.states, machine.many), (len(start), len(tables)))
            self.gives(told(start), machine.start)
            self.gives(told(tables), machine.tables)
            self.gives(told(ends), machine.ends)

    def test_by_name_and_with_tuples(self):
        start, tables, ends = [1, HALF], [[[1, 2], [3, 4]], [[0, 0], [0, 1]]], [0, -1]
        for machine in [Machine(start=start, tables=tables, ends=ends), Machine(ends=ends, tables=tables, start=start),
                        Machine(tupled(start), tupled(tables), tupled(ends)),
                        Machine(told(start), [told(tables[0]), tupled(tables[1])], ends)]:
            self.same((machine.start(), machine.tables(), machine.ends()), told((start, tables, ends)))

    def test_no_states_and_sixteen(self):
        for many in (1, 2, 3):
            for machine in [Machine([], [[]] * many, []), Machine((), ((),) * many, ())]:
                self.same((machine.states, machine.many), (0, many))
                self.same((machine.start(), machine.tables(), machine.ends()), ([], [[]] * many, []))
            machine = Machine([1] * 16, [whole_room(16)] * many, [2] * 16)
            self.same((machine.states, machine.many), (16, many))
            self.same(machine.worth([many - 1] * 16), Ratio(32))

    def test_what_was_passed_is_copied(self):
        start, tables, ends = [1, 2], [[[1, 2], [3, 4]], told([[5, 6], [7, 8]])], told([1, 1])
        machine = Machine(start, tables, ends)
        start[0] = 9
        start.append(1)
        tables[0][0][0] = 9
        tables[1][1] = [0, 0]
        tables.pop()
        ends.clear()
        self.same(machine.start(), told([1, 2]))
        self.same(machine.tables(), told([[[1, 2], [3, 4]], [[5, 6], [7, 8]]]))
        self.same(machine.ends(), told([1, 1]))
        self.same((machine.states, machine.many), (2, 2))

    def test_what_is_returned_is_a_copy(self):
        machine = Machine([1, 2], [[[1, 2], [3, 4]]], [1, 1])
        machine.start()[0] = 7
        machine.start().clear()
        machine.ends().append(7)
        machine.tables()[0][0][0] = 7
        machine.tables()[0].pop()
        machine.tables().pop()
        self.same((machine.start(), machine.tables(), machine.ends()), told(([1, 2], [[[1, 2], [3, 4]]], [1, 1])))

    def test_one_list_in_several_places(self):
        row = [1, 2]
        machine = Machine(row, [[row, row]], row)
        self.gives(told([row, row]), lambda: machine.tables()[0])
        self.same((machine.start(), machine.tables(), machine.ends()), told((row, [[row, row]], row)))

    def test_parts_are_read_only(self):
        for name in ["states", "many"]:
            with self.assertRaises(AttributeError):
                setattr(Machine([], [[]], []), name, 3)

    def test_wrong_starts(self):
        for value in bad_starts():
            self.fails_both(InvalidStart, {"value": value}, Machine, start=value, tables=[[]], ends=[])

    def test_wrong_tables(self):
        for states in (2, 3):
            for value in bad_tables(states):
                self.fails_both(InvalidTables, {"value": value}, Machine, start=[1] * states, tables=value,
                                ends=[0] * states)
        for value in [[], (), [[[]]], [[[0]]], [[], [[0]]], [[]] * 4, [5], [None], [[], 0], [[], None], [()] * 4]:
            self.fails_both(InvalidTables, {"value": value}, Machine, start=[], tables=value, ends=[])
        for value in [[], [[]], [[[]]], [[[1, 0]]], [[[1], [0]]], [[1]], [1], [[[True]]], [[[0]], [[False]]]]:
            self.fails_both(InvalidTables, {"value": value}, Machine, start=[1], tables=value, ends=[1])

    def test_wrong_ends(self):
        for value in bad_starts() + [[], (), [1], [1, 2, 3], [[1, 2]]]:
            self.fails_both(InvalidEnds, {"value": value}, Machine, start=[1, 0], tables=[whole_room(2)], ends=value)
        for value in [[0], (0,), None, [[]]]:
            self.fails_both(InvalidEnds, {"value": value}, Machine, start=[], tables=[[]], ends=value)

    def test_first_error(self):
        self.fails(InvalidStart, {"value": 1}, Machine, 1, 2, 3)
        self.fails(InvalidStart, {"value": [True]}, Machine, ends=3, tables=2, start=[True])
        self.fails(InvalidTables, {"value": 2}, Machine, [1], 2, 3)
        self.fails(InvalidTables, {"value": [[[1]]]}, Machine, [], [[[1]]], [1])
        self.fails(InvalidEnds, {"value": []}, Machine, [1], [[[1]]], [])


class EqualTest(PackageTest):
    def test_equal(self):
        self.same(PAIRS == Machine(told([1, 0]), (((1, 1), (1, 0)),), [1, 0]), True)
        self.same(PAIRS != Machine([1, 0], [[[1, 1], [1, 0]]], [1, 0]), False)
        self.same(DULL == Machine((), ((),), ()), True)

    def test_not_equal(self):
        for other in [Machine([1, 1], [[[1, 1], [1, 0]]], [1, 0]), Machine([1, 0], [[[1, 1], [1, 1]]], [1, 0]),
                      Machine([1, 0], [[[1, 1], [1, 0]]], [1, 1]), Machine([1, 0], [[[1, 1], [1, 0]]] * 2, [1, 0]),
                      DULL]:
            self.same(PAIRS == other, False)
            self.same(PAIRS != other, True)
        self.same(DULL == Machine([], [[], []], []), False)

    def test_never_equal_to_another_kind(self):
        house = House([[[1, 1], [1, 0]]])
        for other in [None, True, 0, "machine", [1, 0], PAIRS.start(), PAIRS.tables(), repr(PAIRS), Odd(), house,
                      (PAIRS.start(), PAIRS.tables(), PAIRS.ends())]:
            self.same(PAIRS == other, False)
            self.same(other == PAIRS, False)

    def test_repr(self):
        self.same(repr(Machine([1], [[[HALF]]], [-2])), "Machine([Ratio(1, 1)], [[[Ratio(1, 2)]]], [Ratio(-2, 1)])")
        self.same(repr(DULL), "Machine([], [[]], [])")
        self.same(repr(Machine((), ((), ()), ())), "Machine([], [[], []], [])")
        self.same(repr(Machine((1, 0), [((0, 1), (0, 0))], [0, 0])),
                  "Machine([Ratio(1, 1), Ratio(0, 1)], [[[Ratio(0, 1), Ratio(1, 1)], [Ratio(0, 1), Ratio(0, 1)]]], "
                  "[Ratio(0, 1), Ratio(0, 1)])")


class WorthTest(PackageTest):
    def test_ordinary(self):
        for many, wanted in enumerate([1, 1, 2, 3, 5, 8]):
            self.gives(Ratio(wanted), PAIRS.worth, word=[0] * many)
        self.gives(Ratio(1, 6), Machine([Ratio(1, 3)], [[[5]]], [HALF]).worth, word=())

    def test_the_letters_stand_in_sequence(self):
        machine = Machine([1, 0], [[[0, 1], [0, 0]], [[0, 0], [0, 3]]], [0, 1])
        self.gives(Ratio(3), machine.worth, word=[0, 1])
        self.gives(Ratio(0), machine.worth, word=[1, 0])

    def test_rows_are_led(self):
        self.gives(Ratio(2), Machine([1, 0], [[[1, 2], [3, 4]]], [0, 1]).worth, word=[0])
        self.gives(Ratio(3), Machine([0, 1], [[[1, 2], [3, 4]]], [1, 0]).worth, word=[0])

    def test_by_the_words_of_the_document(self):
        for start, tables, ends in some_machines(712):
            machine = Machine(start, tables, ends)
            for word in words_up_to(len(tables), 3):
                self.gives(told(plain_worth(start, tables, ends, word)), machine.worth, word=word)
                self.gives(told(plain_worth(start, tables, ends, word)), machine.worth, word=tuple(word))

    def test_no_states(self):
        for word in [[], (), [0], [0] * 16]:
            self.gives(Ratio(0), DULL.worth, word=word)

    def test_words_of_16_letters(self):
        self.gives(Ratio(1597), PAIRS.worth, word=[0] * 16)
        self.gives(Ratio(16), WIDE.worth, word=(0,) * 16)

    def test_wrong_words(self):
        for many in (1, 2, 3):
            for machine in [Machine([1, 0], [whole_room(2)] * many, [1, 1]), Machine([], [[]] * many, [])]:
                for value in bad_words(many):
                    self.fails_both(InvalidWord, {"value": value}, machine.worth, word=value)


class HouseMachineTest(PackageTest):
    def test_ordinary(self):
        self.gives(Machine([1], [[[7]], [[HALF]]], [1]), house_machine, house=House([[[7]], [[HALF]]]))
        wanted = Machine([1, 0, 0, 1], [[[1, 2, 0, 0], [3, 4, 0, 0], [0, 0, 1, 2], [0, 0, 3, 4]]], [1, 0, 0, 1])
        self.gives(wanted, house_machine, house=House([[[1, 2], [3, 4]]]))

    def test_long_rows_are_led(self):
        source = random.Random(721)
        for letters in edge_letters() + some_letters(722, 1):
            size = len(letters[0])
            machine = house_machine(House(letters))
            line = told(plain_long(plain_idle(size)))
            self.same((machine.states, machine.many), (size * size, len(letters)))
            self.same((machine.start(), machine.ends()), (line, line))
            table = fractions(some_rows(source, size, size))
            for letter, led in zip(letters, machine.tables()):
                wanted = plain_long(plain_times(table, fractions(letter)))
                self.assertEqual(plain_times([plain_long(table)], fractions(led))[0], wanted)

    def test_it_tells_the_sums(self):
        for letters in edge_letters() + some_letters(723, 1):
            machine = house_machine(House(letters))
            for word in words_up_to(len(letters), 2) + [[0] * 5 + [len(letters) - 1, 0]]:
                self.same(machine.worth(word), told(plain_sum(plain_word(letters, word))))

    def test_wrong_houses(self):
        for value in no_houses():
            self.fails_both(InvalidHouse, {"value": value}, house_machine, house=value)


class SumMachineTest(PackageTest):
    def test_ordinary(self):
        both = sum_machine(PAIRS, Machine([2], [[[0]]], [3]))
        self.same(both, Machine([1, 0, 2], [[[1, 1, 0], [1, 0, 0], [0, 0, 0]]], [1, 0, 3]))
        self.gives(both, sum_machine, machine=PAIRS, other=Machine([2], [[[0]]], [3]))
        self.gives(Machine([2, 1, 0], [[[0, 0, 0], [0, 1, 1], [0, 1, 0]]], [3, 1, 0]), sum_machine,
                   machine=Machine([2], [[[0]]], [3]), other=PAIRS)

    def test_worths_are_added(self):
        machines = some_machines(724)
        for mine in machines:
            for its in [one for one in machines if len(one[1]) == len(mine[1])]:
                both = sum_machine(Machine(*mine), Machine(*its))
                self.assertEqual(both.states, len(mine[0]) + len(its[0]))
                for word in words_up_to(len(mine[1]), 2):
                    self.same(both.worth(word), told(plain_worth(*mine, word) + plain_worth(*its, word)))

    def test_no_states(self):
        self.gives(PAIRS, sum_machine, machine=PAIRS, other=DULL)
        self.gives(PAIRS, sum_machine, machine=DULL, other=PAIRS)
        self.gives(DULL, sum_machine, machine=DULL, other=DULL)
        self.gives(WIDE, sum_machine, machine=WIDE, other=DULL)
        three = Machine([], [[], [], []], [])
        self.gives(three, sum_machine, machine=three, other=three)

    def test_sixteen_states_and_more(self):
        eight = Machine([1] * 8, [whole_room(8)], [1] * 8)
        self.gives(WIDE, sum_machine, machine=eight, other=eight)
        limit = {"what": "states", "limit": 16}
        nine = Machine([1] * 9, [whole_room(9)], [1] * 9)
        one = Machine([1], [[[1]]], [1])
        for mine, its in [(eight, nine), (nine, eight), (WIDE, PAIRS), (WIDE, WIDE), (one, WIDE), (WIDE, one)]:
            self.fails_both(TooMany, limit, sum_machine, machine=mine, other=its)

    def test_of_one_machine_with_itself(self):
        both = sum_machine(PAIRS, PAIRS)
        self.same(both.worth([0] * 5), Ratio(16))
        self.same(PAIRS.states, 2)

    def test_unlike_letters(self):
        for mine, its in [(PAIRS, Machine([], [[], []], [])), (Machine([], [[], []], []), PAIRS),
                          (WIDE, Machine([1], [[[1]]] * 3, [1]))]:
            self.fails_both(UnlikeLetters, {}, sum_machine, machine=mine, other=its)

    def test_wrong_machines(self):
        for value in no_machines():
            self.fails_both(InvalidMachine, {"value": value}, sum_machine, machine=value, other=PAIRS)
            self.fails_both(InvalidMachine, {"value": value}, sum_machine, machine=PAIRS, other=value)

    def test_first_error(self):
        self.fails(InvalidMachine, {"value": "a"}, sum_machine, other="b", machine="a")
        self.fails(UnlikeLetters, {}, sum_machine, WIDE, Machine([1] * 16, [whole_room(16)] * 2, [1] * 16))


if __name__ == "__main__":
    unittest.main()
