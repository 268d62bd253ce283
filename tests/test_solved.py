"""[12] Lists, led; [13] Steps."""
import random
import unittest
from fractions import Fraction

from tests.helper import (Odd, PackageTest, fractions, no_counts, no_lists, no_numbers, plain_steps, some_rows,
                          spoiled, told)
from tracewords.errors import InvalidGoals, InvalidMany, InvalidRows
from tracewords.ratios import Ratio
from tracewords.solved import is_solution, kernel, solution, steps

HALF = Ratio(1, 2)


def bad_rows():
    """Values that are no rows of solved.py."""
    found = no_lists()
    found += [[one] for one in no_lists()] + [[[1, 2], one] for one in no_lists()]
    found += [[[one]] for one in no_numbers()] + [[[0, 1], [1, one]] for one in no_numbers()]
    found += [[[]], [[], []], ((),), [[1], [1, 2]], [[1, 2], [1]], [[1], []], [[], [1]]]
    found += spoiled([[1, 2], [3, 4], [5, 6]]) + spoiled(((1, 2), (3, 4))) + [[5, 5, [1, 2]], [None, None, [1]]]
    found += [[[1] * 61], [[1]] * 61, [[1] * 60, [1] * 61], [[[1]]], [[1], [[1]]]]
    return found


class StepsTest(PackageTest):
    def test_ordinary(self):
        self.gives(told([[0, 1, 2]]), steps, rows=[[0, 2, 4], [0, 3, 6]])
        self.gives(told([[1, 0], [0, 1]]), steps, rows=[[1, 1], [1, -1]])
        self.gives(told([[1, 0, -1], [0, 1, 2]]), steps, rows=[[4, 5, 6], [1, 2, 3], [7, 8, 9]])
        self.gives(told([[0, 1, 0], [0, 0, 1]]), steps, rows=[[0, 0, HALF], [0, -3, 1]])
        self.gives(told([[1, Fraction(-2, 3)]]), steps, rows=[[HALF, Ratio(-1, 3)]])

    def test_steps_above_are_cleared_when_a_later_row_comes(self):
        self.gives(told([[1, 0, 3], [0, 1, 1]]), steps, rows=[[1, 2, 5], [0, 1, 1]])
        self.gives(told([[1, 2, 0], [0, 0, 1]]), steps, rows=[[0, 0, 7], [1, 2, 5]])

    def test_none_alike_and_noughts(self):
        self.gives([], steps, rows=[])
        self.gives([], steps, rows=())
        self.gives([], steps, rows=[[0]])
        self.gives([], steps, rows=[[0, 0], [0, Ratio(0)]])
        self.gives(told([[1, 2]]), steps, rows=[[0, 0], [3, 6], [3, 6], [-1, -2]])

    def test_widths(self):
        self.gives(told([[1]]), steps, rows=[[Ratio(-5, 3)]])
        self.gives(told([[0] * 59 + [1]]), steps, rows=[[0] * 59 + [4]])
        self.gives(told([[1] * 60]), steps, rows=[[7] * 60] * 60)
        diagonal = [[1 if at == place else 0 for place in range(60)] for at in range(60)]
        self.gives(told(diagonal), steps, rows=[[2 * number for number in row] for row in diagonal[::-1]])

    def test_tuples(self):
        self.gives(told([[1, 2]]), steps, rows=((2, 4), (1, 2)))
        self.gives(told([[1, 2]]), steps, rows=[(2, 4), [1, 2]])

    def test_steps_stay_as_they_are(self):
        rows = told([[1, 0, 3], [0, 1, 1]])
        self.gives(rows, steps, rows=rows)

    def test_against_plain_fractions(self):
        source = random.Random(13)
        for _ in range(150):
            rows = some_rows(source, source.randint(0, 6), source.randint(1, 6))
            self.same(steps(rows), told(plain_steps(rows)))

    def test_great_numbers(self):
        source = random.Random(60)
        rows = [[source.randint(-999999, 999999) for _ in range(14)] for _ in range(12)]
        self.same(steps(rows), told(plain_steps(rows)))

    def test_wrong_rows(self):
        for value in bad_rows():
            self.fails_both(InvalidRows, {"value": value}, steps, rows=value)


class KernelTest(PackageTest):
    def test_ordinary(self):
        self.gives(told([[1, Fraction(-1, 2)]]), kernel, rows=[[1, 2]], wide=2)
        self.gives(told([[1, -2, 1]]), kernel, rows=[[1, 2, 3], [4, 5, 6]], wide=3)
        self.gives(told([[1, 0, 0], [0, 0, 1]]), kernel, rows=[[0, HALF, 0]], wide=3)

    def test_no_lists(self):
        self.gives([], kernel, rows=[[5]], wide=1)
        self.gives([], kernel, rows=[[1, 1], [1, -1]], wide=2)

    def test_of_no_rows(self):
        self.gives(told([[1]]), kernel, rows=[], wide=1)
        self.gives(told([[1, 0, 0], [0, 1, 0], [0, 0, 1]]), kernel, rows=(), wide=3)
        self.gives(told([[int(at == place) for place in range(60)] for at in range(60)]), kernel, rows=[], wide=60)

    def test_noughts_and_alike(self):
        self.gives(told([[1, 0], [0, 1]]), kernel, rows=[[0, 0]], wide=2)
        self.gives(told([[1, -1]]), kernel, rows=[[1, 1], [1, 1], (2, 2)], wide=2)

    def test_width_60(self):
        found = kernel([[1] * 60], 60)
        self.same(found, told([[int(place == at) - int(place == 59) for place in range(60)] for at in range(59)]))

    def test_it_is_led_to_nought_stands_in_steps_and_is_wide_enough(self):
        source = random.Random(31)
        for _ in range(100):
            wide = source.randint(1, 7)
            rows = some_rows(source, source.randint(0, 6), wide)
            found = kernel(rows, wide)
            self.same(found, told(plain_steps(found)))
            self.assertEqual(len(found) + len(steps(rows)), wide)
            for row in fractions(rows):
                for one in fractions(found):
                    self.assertEqual(sum(mine * its for mine, its in zip(row, one)), 0)

    def test_wrong_rows(self):
        for value in bad_rows():
            self.fails_both(InvalidRows, {"value": value}, kernel, rows=value, wide=2)

    def test_wrong_width(self):
        for value in no_counts() + [0, 61]:
            self.fails_both(InvalidMany, {"value": value}, kernel, rows=[], wide=value)
            self.fails_both(InvalidMany, {"value": value}, kernel, rows=[[1, 2]], wide=value)

    def test_rows_of_another_width(self):
        for wide in [1, 3, 60]:
            self.fails_both(InvalidRows, {"value": [(1, 2)]}, kernel, rows=[(1, 2)], wide=wide)

    def test_first_error(self):
        self.fails(InvalidRows, {"value": [[True]]}, kernel, [[True]], 0)
        self.fails(InvalidRows, {"value": "x"}, kernel, wide="y", rows="x")
        self.fails(InvalidMany, {"value": 0}, kernel, [[1, 2]], 0)


class SolutionTest(PackageTest):
    def check(self, rows, goals):
        """The returned list is a solution by the words of the document, and `is_solution` says so."""
        found = solution(rows, goals)
        self.assertIs(type(found), list)
        self.assertEqual(len(found), len(rows[0]))
        for number in found:
            self.assertIs(type(number), Ratio)
        for row, goal in zip(fractions(rows), fractions(goals)):
            self.assertEqual(sum(mine * its for mine, its in zip(row, fractions(found))), goal)
        self.same(is_solution(rows, goals, found), True)

    def test_one(self):
        self.gives(told([2, 1]), solution, rows=[[1, 1], [1, -1]], goals=[3, 1])
        self.gives(told([Fraction(1, 2)]), solution, rows=((4,),), goals=(2,))
        self.gives(told([0, 0]), solution, rows=[[1, 1], [1, -1]], goals=[0, Ratio(0)])

    def test_none(self):
        self.gives(None, solution, rows=[[1, 1], [2, 2]], goals=[1, 3])
        self.gives(None, solution, rows=[[0]], goals=[1])
        self.gives(None, solution, rows=[[1], [1]], goals=[1, HALF])
        self.gives(None, solution, rows=((0, 0), (1, 0)), goals=(Ratio(1, 9), 0))

    def test_many(self):
        self.check([[1, 1]], [2])
        self.check([[0, 0, 0]], [0])
        self.check([[0, 2, 4], [0, 1, 2]], [6, 3])
        self.check(((0, HALF, 1),), (Ratio(5, 7),))
        self.check([[1] * 60] * 60, [3] * 60)
        self.gives(solution([[1, 1]], [2]), solution, rows=[[Ratio(1), 1]], goals=(Ratio(2),))

    def test_any(self):
        source = random.Random(12)
        seen = {True: 0, False: 0}
        for _ in range(150):
            rows = some_rows(source, source.randint(1, 6), source.randint(1, 6))
            goals = [source.choice([0, 0, 1, -2, HALF]) for _ in rows]
            wide = len(rows[0])
            there = all(row[:wide] != [0] * wide for row in
                        plain_steps([[*row, goal] for row, goal in zip(rows, goals)]))
            seen[there] += 1
            if there:
                self.check(rows, goals)
            else:
                self.assertIsNone(solution(rows, goals))
        self.assertGreater(min(seen.values()), 20)

    def test_as_wide_as_can_be(self):
        source = random.Random(6060)
        rows = [[source.randint(-999999, 999999) for _ in range(60)] for _ in range(60)]
        self.check(rows, [source.randint(-999999, 999999) for _ in range(60)])

    def test_fractions_of_ten_rows_stay_below_2000_digits(self):
        source = random.Random(10)
        rows = [[Ratio(source.randint(-999999, 999999), source.randint(1, 999999)) for _ in range(60)]
                for _ in range(10)]
        found = solution(rows, [Ratio(source.randint(1, 999999), 999983) for _ in range(10)])
        self.assertTrue(all(len(str(number.size().top)) <= 2000 for number in found))
        self.assertTrue(all(len(str(number.bottom)) <= 2000 for number in found))

    def test_wrong_rows(self):
        for value in bad_rows() + [[], ()]:
            self.fails_both(InvalidRows, {"value": value}, solution, rows=value, goals=[1])
            self.fails_both(InvalidRows, {"value": value}, is_solution, rows=value, goals=[1], value=[1])

    def test_wrong_goals(self):
        bad = no_lists() + [[1, one] for one in no_numbers()] + [[], [1], (1,), [1, 2, 3]] + spoiled([1, 2])
        for value in bad:
            self.fails_both(InvalidGoals, {"value": value}, solution, rows=[[1], [2]], goals=value)
            self.fails_both(InvalidGoals, {"value": value}, is_solution, rows=[[1], [2]], goals=value, value=[1])

    def test_first_error(self):
        self.fails(InvalidRows, {"value": [[False]]}, solution, [[False]], "no goals")
        self.fails(InvalidRows, {"value": []}, is_solution, goals=None, rows=[], value=[])


class IsSolutionTest(PackageTest):
    def test_solutions(self):
        self.gives(True, is_solution, rows=[[1, 1]], goals=[2], value=[5, -3])
        self.gives(True, is_solution, rows=((1, 1),), goals=(2,), value=(Ratio(1, 2), Ratio(3, 2)))
        self.gives(True, is_solution, rows=[[HALF, 1], [0, 0]], goals=[Ratio(1), 0], value=[2, Ratio(0)])

    def test_no_solutions(self):
        for value in [[1], [1, 2], [2, 2], [1, 1, 0], [], (), [[1, 1]], [2, "0"]] + no_lists():
            self.same(is_solution([[1, 1]], [2], value), False)
            self.same(is_solution(rows=[[1, 1]], goals=[2], value=value), False)

    def test_one_row_of_several_is_not_led_to_its_goal(self):
        self.gives(False, is_solution, rows=[[1, 0], [0, 1]], goals=[1, 2], value=[1, 3])
        self.gives(False, is_solution, rows=[[1, 0], [0, 1]], goals=[1, 2], value=[0, 2])

    def test_bools_and_odd_numbers(self):
        for one in no_numbers():
            self.same(is_solution([[1, 1]], [2], [1, one]), False)
        self.same(is_solution([[1, 0]], [1], [1, True]), False)
        self.same(is_solution([[1]], [0], [False]), False)

    def test_objects(self):
        self.same(is_solution([[1]], [1], Odd()), False)


if __name__ == "__main__":
    unittest.main()
