r"""The examples of the document, as they stand there; names go on from one to the next.

tracewords/basics.py, tracewords/ratios.py

>>> from tracewords.ratios import Ratio
>>> [Ratio(4, -6), str(Ratio(1, 2) + 3), Ratio(1, 3).is_below(Ratio(2, 5))]
[Ratio(-2, 3), '7/2', True]

tracewords/solved.py

>>> from tracewords.solved import is_solution, kernel, solution, steps
>>> [steps([[0, 2, 4], [0, 3, 6]]) == [[Ratio(0), Ratio(1), Ratio(2)]], kernel([[1, 2]], 2) == [[Ratio(1), Ratio(-1, 2)]], kernel([], 1), kernel([[5]], 1)]
[True, True, [[Ratio(1, 1)]], []]
>>> [solution([[1, 1], [1, -1]], [3, 1]) == [Ratio(2), Ratio(1)], solution([[1, 1], [2, 2]], [1, 3]), is_solution([[1, 1]], [2], [5, -3]), is_solution([[1, 1]], [2], [1])]
[True, None, True, False]

tracewords/tables.py

>>> from tracewords.tables import about, determinant, from_long, idle, is_table, led, long_row, mixed, scaled, sum_on, times, undone
>>> table = [[1, 2], [0, 3]]
>>> [[str(number) for number in long_row(one)] for one in [times(table, [[0, 1], [1, 0]]), undone(table), about(table), mixed(table, idle(2), -1), scaled(table, Ratio(1, 3))]]
[['2', '1', '3', '0'], ['1', '-2/3', '0', '1/3'], ['1', '0', '2', '3'], ['0', '2', '0', '2'], ['1/3', '2/3', '0', '1']]
>>> [sum_on(table), determinant(table), led([1, 1], table), from_long([5]), is_table([[1, 2]]), is_table(()), is_table(((0,),)), times(undone(table), table) == idle(2)]
[Ratio(4, 1), Ratio(3, 1), [Ratio(1, 1), Ratio(5, 1)], [[Ratio(5, 1)]], False, False, True, True]

tracewords/houses.py

>>> from tracewords.houses import House, about_house, is_word, led_house, side
>>> from tracewords.tables import sum_on
>>> free, bent = House([[[1, 1], [0, 1]], [[1, 0], [1, 1]]]), House([[[1, 1], [0, 1]], [[1, 0], [0, 2]]])
>>> [free.word_sum([0, 1]), free.table([0, 1]) == free.table((0, 1)), sum_on(free.table([])), free.width, is_word(free, [0, 2]), about_house(free) == House(free.letters()[::-1])]
[Ratio(3, 1), True, Ratio(2, 1), 2, False, True]
>>> [repr(side(House([[[2]]]), House([[[3]]])).table([0, 0])), led_house(bent, [[0, 1], [1, 0]]) == House([[[1, 0], [1, 1]], [[2, 0], [0, 1]]])]
['[[Ratio(4, 1), Ratio(0, 1)], [Ratio(0, 1), Ratio(9, 1)]]', True]

tracewords/lots.py

>>> from tracewords.lots import base_words, dimension, every_table, is_closed, is_mixture_of, lot_rows, mixture_of, table_by
>>> [base_words(free), dimension(bent), every_table(free), [[str(number) for number in row] for row in lot_rows(bent)], mixture_of(bent, [[0, 0], [1, 0]])]
[[[], [0], [1], [0, 1]], 3, True, [['1', '0', '0', '0'], ['0', '1', '0', '0'], ['0', '0', '0', '1']], None]
>>> [[(word, str(number)) for word, number in mixture_of(free, [[0, 1], [0, 0]])], is_mixture_of(free, [[1, 2], [0, 1]], [([0, 0], 1)]), is_closed(bent, [[1, 0, 0, 1]]), is_closed(bent, lot_rows(bent)), table_by(bent, []) == table_by(bent, [([0], 2), ([0], -2)])]
[[([], '-1'), ([0], '1')], True, False, True, True]

tracewords/rooms.py

>>> from tracewords.houses import House
>>> from tracewords.rooms import images, is_room, least_room, led_out, meet_room, noughts, sum_room
>>> slope, shift = House([[[1, 1], [0, 1]], [[1, 0], [0, 2]]]), House([[[0, 1], [0, 0]]])
>>> [is_room(slope, [[0, 1]]), is_room(slope, [[1, 0]]), led_out(slope, [[1, 0]]), led_out(slope, [[0, 2]]), len(least_room(slope, [[1, 0]])), least_room(slope, [[0, 3]]), sum_room(slope, [[0, 1]], []), meet_room(slope, [[0, 1]], []), noughts(shift, [[0, 1], [0, 0]]) == images(shift, [[0, 2], [0, 0]])]
[True, False, (0, 0), None, 2, [[Ratio(0, 1), Ratio(1, 1)]], [[Ratio(0, 1), Ratio(1, 1)]], [], True]

tracewords/cuts.py

>>> from tracewords.cuts import cut, rest_house, split_sums
>>> [cut(slope, [[0, 1]]) == House([[[1]], [[2]]]), rest_house(slope, [[0, 1]]) == House([[[1]], [[1]]]), split_sums(slope, [[0, 1]], [1, 1]), split_sums(slope, [], [])]
[True, True, (Ratio(4, 1), Ratio(1, 1)), (Ratio(0, 1), Ratio(2, 1))]

The example of [26]

>>> house, corner = House([[[1, 1], [0, 1]], [[1, 0], [1, 1]]]), House([[[1, 1], [0, 1]], [[1, 0], [0, 2]]])
>>> base_words(house)
[[], [0], [1], [0, 1]]
>>> [[(word, str(number)) for word, number in mixture_of(house, house.table([0, 0]))], house.table([0, 1]) == [[Ratio(2), Ratio(1)], [Ratio(1), Ratio(1)]]]
[[([], '-1'), ([0], '2')], True]
>>> [base_words(corner), [row[2] == Ratio(0) for row in lot_rows(corner)]]
[[[], [0], [1]], [True, True, True]]

tracewords/leads.py

>>> from tracewords.houses import House
>>> from tracewords.leads import commuting, is_commuting, is_lead, leads, middle
>>> from tracewords.ratios import Ratio
>>> line, shift, turned = House([[[1, 0], [0, 2]]]), House([[[1, 1], [0, 1]]]), House([[[2, 0], [0, 1]]])
>>> [len(commuting(line)), len(middle(line)), commuting(shift)[1] == [[Ratio(0), Ratio(1)], [Ratio(0), Ratio(0)]], is_commuting(line, [[5, 0], [0, 7]]), is_commuting(line, [[0, 1], [0, 0]]), is_lead(line, turned, [[0, 3], [0, 0]]), leads(line, shift) == [[[Ratio(0), Ratio(1)], [Ratio(0), Ratio(0)]]]]
[2, 2, True, True, False, True, True]

tracewords/partners.py

>>> from tracewords.partners import is_onto, is_partner, onto, partner
>>> [partner(line, [[1, 0]]) == [[Ratio(0), Ratio(1)]], partner(shift, [[0, 1]]), is_partner(House([[[1, 0], [0, 1]]]), [[0, 1]], [[1, 9]]), partner(shift, []) == [[Ratio(1), Ratio(0)], [Ratio(0), Ratio(1)]], partner(shift, [[1, 0], [0, 1]])]
[True, None, True, True, []]
>>> [onto(line, [[1, 0]]) == [[Ratio(1), Ratio(0)], [Ratio(0), Ratio(0)]], onto(shift, [[0, 1]]), is_onto(line, [[0, 1]], [[0, 0], [0, 1]]), is_onto(shift, [], [[0, 0], [0, 0]])]
[True, None, True, True]

tracewords/sums.py

>>> from tracewords.houses import House
>>> from tracewords.sums import counts, parts, sums_rank, sums_table
>>> pair, corner, line = House([[[1, 1], [0, 1]], [[1, 0], [1, 1]]]), House([[[1, 1], [0, 1]], [[1, 0], [0, 2]]]), House([[[1, 0], [0, 2]]])
>>> [[str(one) for one in row] for row in sums_table(pair)]
[['2', '2', '2', '3'], ['2', '2', '3', '4'], ['2', '3', '2', '4'], ['3', '4', '4', '7']]
>>> [sums_rank(pair), sums_rank(corner), parts(pair), parts(corner), counts(pair), counts(line)]
[4, 2, True, False, (4, 1, 1), (2, 2, 2)]

tracewords/nil.py

>>> from tracewords.nil import is_nil, is_nil_mixture, nil_mixture, nil_part, nil_room
>>> [[[str(one) for one in row] for row in table] for table in nil_part(corner)]
[[['0', '1'], ['0', '0']]]
>>> [nil_part(pair), is_nil(corner, [[0, 3], [0, 0]]), is_nil(corner, [[1, 0], [0, 1]]), is_nil(pair, [[0, 0], [0, 0]]), is_nil_mixture(corner, [([], -2), ([0], 2)]), is_nil_mixture(corner, [])]
[[], True, False, True, True, False]
>>> [nil_mixture(pair), is_nil_mixture(corner, nil_mixture(corner)), [[str(one) for one in row] for row in nil_room(corner)], nil_room(line)]
[None, True, [['0', '1']], []]

tracewords/alike.py

>>> from tracewords.alike import alike_sums, both_words, is_unlike_word, unlike_word
>>> from tracewords.houses import House, led_house
>>> two, three = House([[[2]]]), House([[[3]]])
>>> [both_words(two, three), unlike_word(two, three), is_unlike_word(two, three, (0, 0)), is_unlike_word(two, three, []), alike_sums(two, two)]
[[[], [0]], [0], True, False, True]

tracewords/changes.py

>>> from tracewords.changes import change, is_change
>>> here, there = House([[[1, 0], [0, 2]], [[0, 1], [1, 0]]]), House([[[2, 0], [0, 1]], [[0, 1], [1, 0]]])
>>> [is_change(here, there, [[0, 1], [1, 0]]), is_change(here, there, [[1, 0], [0, 1]]), is_change(here, there, change(here, there)), change(two, three)]
[True, False, True, None]
>>> [is_change(here, led_house(here, [[1, 1], [0, 1]]), [[1, -1], [0, 1]]), change(House([[[0, 1], [1, 0]]]), House([[[1, 0], [0, 1]]]))]
[True, None]

tracewords/machines.py

>>> from tracewords.machines import Machine, house_machine, sum_machine
>>> pairs = Machine([1, 0], [[[1, 1], [1, 0]]], (1, 0))
>>> [[str(pairs.worth([0] * many)) for many in range(6)], pairs.states, sum_machine(pairs, Machine([2], [[[0]]], [3])).worth([])]
[['1', '1', '2', '3', '5', '8'], 2, Ratio(7, 1)]
>>> [str(house_machine(House([[[1, 1], [0, 1]], [[1, 0], [1, 1]]])).worth(word)) for word in [[], [0], [0, 1], [0, 1, 1]]]
['2', '2', '3', '4']

tracewords/least.py

>>> from tracewords.least import is_least, least_machine, state_words, unlike_by
>>> fading = house_machine(House([[[0, 1], [0, 0]]]))
>>> [least_machine(fading) == Machine([1], [[[0]]], [2]), is_least(fading), is_least(pairs), state_words(pairs), least_machine(pairs) == Machine([1, 0], [[[0, 1], [1, 1]]], [1, 1])]
[True, False, True, [[], [0]], True]
>>> [unlike_by(pairs, Machine([1], [[[1]]], [1])), unlike_by(pairs, least_machine(pairs)), least_machine(Machine([1], [[[5]]], [0])).states]
[[0, 0], None, 0]

tracewords/rounds.py

>>> from tracewords.ratios import Ratio
>>> from tracewords.rounds import line_numbers, power_sums, round_sum, standard
>>> one, other = [[1, 1], [0, 3]], [[0, 1], [1, 0]]
>>> [round_sum([one]) == Ratio(4), round_sum([one, other]) == Ratio(-1), round_sum([one, one]) == Ratio(6), round_sum([one, other, one]) == Ratio(0), [str(number) for number in power_sums(one, 3)], [str(number) for number in line_numbers(one)], standard([one, other]) == [[Ratio(1), Ratio(-2)], [Ratio(2), Ratio(-1)]]]
[True, True, True, True, ['2', '4', '10', '28'], ['3', '-4', '1'], True]

tracewords/fives.py

>>> from tracewords.fives import every_by, five, same_five, word_by
>>> from tracewords.houses import House
>>> house, flat = House([one, other]), House([[[1, 1], [0, 2]], other])
>>> [[str(number) for number in five(house)], str(word_by(five(house), [0, 1, 0, 1])), str(word_by((4, 0, 10, 1, 2), [])), every_by(five(house)), every_by(five(flat)), same_five(house, House([other, one]))]
[['4', '0', '10', '1', '2'], '7', '2', True, False, False]

tracewords/texts.py

>>> from tracewords.houses import House
>>> from tracewords.ratios import Ratio
>>> from tracewords.texts import is_of_sort, written
>>> [written("row", [1, Ratio(-3, 2)]), written("house", House([[[2]], [[0]]])), written("word", (0, 1)), written("room", (2, [[1, 2]])), is_of_sort("room", (2, [[2, 1]]))]
['row 1 -3/2\n', 'house 1\nline 2\nline 0\n', 'word 0 1\n', 'room 2\nline 1 2\n', False]
>>> [written("mixture", [([0], 2), ([], -1)]), written("table", [[0, 1], [1, 0]]), written("number", Ratio(4, 2))]
['mixture\nterm 2 0\nterm -1\n', 'table 2\nline 0 1\nline 1 0\n', 'number 2\n']

tracewords/readers.py

>>> from tracewords.readers import read
>>> [read("word\n"), read("room 2\n"), read("number 1/2\n"), read("table 1\nline 3\n"), read("mixture\nterm 1 0 0\n")]
[('word', []), ('room', (2, [])), ('number', Ratio(1, 2)), ('table', [[Ratio(3, 1)]]), ('mixture', [([0, 0], Ratio(1, 1))])]

tracewords/claims.py

>>> from tracewords.claims import contrary, is_claim, is_paper_of, is_true
>>> full, line = House([[[1, 1], [0, 1]], [[1, 0], [1, 1]]]), House([[[1, 0], [0, 2]]])
>>> [is_true(("all", full)), is_paper_of(("all", full), [[], [0], [1], [0, 1]]), is_true(("less", line)), is_paper_of(("made", line, [[3, 0], [0, 5]]), [([], 1), ([0], 2)]), contrary(("kept", line, [[1, 0]])) == ("ledout", line, [[1, 0]])]
[True, True, True, True, True]
>>> [is_paper_of(("parts", line), [[], [0]]), is_paper_of(("ledout", full, [[1, 0]]), (0, 0)), is_true(("kept", line, [[0, 1]])), is_claim(("made", line, [[1]])), is_paper_of(("unlike", line, House([[[1]]])), [])]
[True, True, True, False, True]

tracewords/commands.py

>>> from tracewords.commands import is_command, is_deed
>>> [is_command("table x 0,1 0,0"), is_command("table x 0, 1"), is_deed("house h x y"), is_command("wordsum h -"), is_deed("undo"), is_command("house h")]
[True, False, True, True, False, False]

tracewords/desk.py

>>> from tracewords.desk import Desk
>>> desk = Desk()
>>> desk.do_all("table x 0,1 0,0", "table y 0,0 1,0", "house h x y", "claim k all h", "dimension h", "wordsum h 0,1", "base h", "rows r 1,0", "claim n kept h r")
['-', '-', '-', 'k true', '4', '1', '- 0 1 0,1', '-', 'n false']
>>> desk.do_all("put h 1 x", "dimension h", "parted h", "undo", "states", "show h", "out h r", "names")
['k false', '2', 'no', 'put h 1 x', 'k true, n false', '0,1 0,0 ; 0,0 1,0', '0 0', 'h r x y']

The example of [43], and of [45]

>>> [[str(one) for row in table for one in row] for table in commuting(line)], commuting(line) == middle(line)
([['1', '0', '0', '0'], ['0', '0', '0', '1']], True)
>>> [[str(one) for one in row] for row in lot_rows(line)]
[['1', '0', '0', '0'], ['0', '0', '0', '1']]
>>> from tracewords.rooms import is_room
>>> calm = House([[[1, 0], [0, 1]]])
>>> [is_room(shift, [[0, 1]]), partner(shift, [[0, 1]]), is_room(calm, [[0, 1]])]
[True, None, True]
>>> [is_partner(calm, [[0, 1]], [[1, number]]) for number in [0, 1, -5, Ratio(2, 3)]]
[True, True, True, True]

The example of [56]

>>> [base_words(corner), [[str(one) for one in row] for row in sums_table(corner)], sums_rank(corner)]
[[[], [0], [1]], [['2', '2', '3'], ['2', '2', '3'], ['3', '3', '5']], 2]
>>> [parts(corner), [[[str(one) for one in row] for row in table] for table in nil_part(corner)]]
[False, [[['0', '1'], ['0', '0']]]]
>>> from tracewords.tables import mixed
>>> [mixed(corner.table([0]), corner.table([]), -1) == nil_part(corner)[0], nil_room(corner) == [[Ratio(0), Ratio(1)]]]
[True, True]

The houses of [63] that have alike sums and no change

>>> nought, shift = House([[[0, 0], [0, 0]]]), House([[[0, 1], [0, 0]]])
>>> [alike_sums(nought, shift), is_change(nought, shift, [[1, 0], [0, 1]]), is_change(shift, nought, [[0, 1], [1, 0]])]
[True, False, False]
>>> change(nought, shift)
Traceback (most recent call last):
    ...
tracewords.errors.NotParted

The example of [76]

>>> fading = House([[[0, 1], [0, 0]]])
>>> [str(house_machine(fading).worth([0] * many)) for many in range(4)], least_machine(house_machine(fading)).states
(['2', '0', '0', '0'], 1)
>>> [str(number) for row in least_machine(house_machine(fading)).tables()[0] for number in row]
['0']
"""
import doctest
import pathlib
import unittest

from tests import test_examples


class ExamplesTest(unittest.TestCase):
    def test_examples_of_the_document(self):
        failed, tried = doctest.testmod(test_examples)
        self.assertGreater(tried, 0)
        self.assertEqual(failed, 0)

    def test_examples_of_the_readme(self):
        readme = pathlib.Path(__file__).resolve().parent.parent / "README.md"
        failed, tried = doctest.testfile(str(readme), module_relative=False)
        self.assertGreater(tried, 0)
        self.assertEqual(failed, 0)


if __name__ == "__main__":
    unittest.main()
