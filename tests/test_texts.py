"""[91] The written form."""
import unittest
from fractions import Fraction

from tests.helper import (Odd, PackageTest, no_counts, no_lists, no_numbers, spoiled, told, tupled, whole_room)
from tests.test_houses import bad_words, no_houses
from tests.test_tables import bad_tables
from tracewords.errors import InvalidSort, InvalidValue
from tracewords.houses import House
from tracewords.ratios import Ratio
from tracewords.texts import is_of_sort, sorts, written

SORTS = ["number", "row", "table", "house", "word", "mixture", "room"]
HALF = Ratio(1, 2)
LONG = [0, 1, 2, 0] * 4

# Tuples of a sort, a value and its written form; the values are as `read` returns them, but for Ratios.
FORMS = [
    ("number", 0, "number 0\n"), ("number", 7, "number 7\n"), ("number", -12, "number -12\n"),
    ("number", HALF, "number 1/2\n"), ("number", Ratio(-3, 2), "number -3/2\n"),
    ("number", 10 ** 30, f"number {10 ** 30}\n"),
    ("number", Ratio(999999, 1000000), "number 999999/1000000\n"),
    ("number", Ratio(-1, 10 ** 40), f"number -1/{10 ** 40}\n"),
    ("row", [1], "row 1\n"), ("row", [1, Ratio(-3, 2)], "row 1 -3/2\n"), ("row", [0, 0, 0, -1], "row 0 0 0 -1\n"),
    ("table", [[3]], "table 1\nline 3\n"), ("table", [[0, 1], [1, 0]], "table 2\nline 0 1\nline 1 0\n"),
    ("table", [[0, HALF, -1]] * 3, "table 3\n" + "line 0 1/2 -1\n" * 3),
    ("table", whole_room(4), "table 4\nline 1 0 0 0\nline 0 1 0 0\nline 0 0 1 0\nline 0 0 0 1\n"),
    ("house", House([[[2]]]), "house 1\nline 2\n"), ("house", House([[[2]], [[0]]]), "house 1\nline 2\nline 0\n"),
    ("house", House([[[2]], [[0]], [[HALF]]]), "house 1\nline 2\nline 0\nline 1/2\n"),
    ("house", House([[[1, 2], [3, 4]], [[5, 6], [7, 8]]]),
     "house 2\nline 1 2\nline 3 4\nline 5 6\nline 7 8\n"),
    ("house", House([whole_room(4)]), "house 4\nline 1 0 0 0\nline 0 1 0 0\nline 0 0 1 0\nline 0 0 0 1\n"),
    ("house", House([[[0] * 4] * 4] * 3), "house 4\n" + "line 0 0 0 0\n" * 12),
    ("word", [], "word\n"), ("word", [0], "word 0\n"), ("word", [2, 0, 1], "word 2 0 1\n"),
    ("word", LONG, "word 0 1 2 0 0 1 2 0 0 1 2 0 0 1 2 0\n"),
    ("mixture", [], "mixture\n"), ("mixture", [([], -1)], "mixture\nterm -1\n"),
    ("mixture", [([0], 2), ([], Ratio(-1, 3))], "mixture\nterm 2 0\nterm -1/3\n"),
    ("mixture", [(LONG, 0), (LONG, 0)], "mixture\n" + "term 0 0 1 2 0 0 1 2 0 0 1 2 0 0 1 2 0\n" * 2),
    ("mixture", [([1], 1)] * 40, "mixture\n" + "term 1 1\n" * 40),
    ("room", (1, []), "room 1\n"), ("room", (4, []), "room 4\n"), ("room", (1, [[1]]), "room 1\nline 1\n"),
    ("room", (2, [[1, 2]]), "room 2\nline 1 2\n"), ("room", (2, [[0, 1]]), "room 2\nline 0 1\n"),
    ("room", (2, [[1, 0], [0, 1]]), "room 2\nline 1 0\nline 0 1\n"),
    ("room", (3, [[1, 0, HALF], [0, 1, -2]]), "room 3\nline 1 0 1/2\nline 0 1 -2\n"),
    ("room", (4, whole_room(4)), "room 4\nline 1 0 0 0\nline 0 1 0 0\nline 0 0 1 0\nline 0 0 0 1\n"),
]


def other_forms():
    """Tuples of a sort, a value of it in other kinds, and its written form."""
    found = [(sort, told(value) if sort != "word" else tuple(value), form) for sort, value, form in FORMS
             if sort not in ("mixture", "room", "house")]
    found += [(sort, tupled(value), form) for sort, value, form in FORMS if sort in ("row", "table", "room", "mixture")]
    return found + [("number", Ratio(4, 2), "number 2\n"), ("number", Ratio(0, 5), "number 0\n"),
                    ("row", (Ratio(6, 3), Ratio(-2, 4)), "row 2 -1/2\n"),
                    ("table", [[Ratio(4, 2)]], "table 1\nline 2\n"), ("table", ([Ratio(4, 2)],), "table 1\nline 2\n"),
                    ("mixture", (((0, 1), Ratio(8, 4)),), "mixture\nterm 2 0 1\n"),
                    ("mixture", [((), Ratio(2, 4)), ([2], -1)], "mixture\nterm 1/2\nterm -1 2\n"),
                    ("room", (2, ((Ratio(1), Ratio(2)),)), "room 2\nline 1 2\n"),
                    ("room", (2, ()), "room 2\n"), ("house", House((((Ratio(4, 2),),),)), "house 1\nline 2\n")]


def wrong_values():
    """A dict of values that are none of a sort."""
    terms = [([0], 2), ([], -1)]
    odd = [None, True, False, "", "1", b"1", {}, {0: 1}, set(), Odd(), Odd, len, Fraction(1), range(2), House]
    found = {sort: odd + [[True], [[False]], [None], "ab"] for sort in SORTS}
    found["number"] = no_numbers() + [[1], (1, 2)]
    found["row"] += [[], (), [1] * 5, 1, HALF, [[1]], House([[[1]]])] + spoiled([1, 2])
    found["row"] += [[one] for one in no_numbers()]
    found["table"] = bad_tables() + [[[True]], [[1, 0], [0, False]]]
    found["house"] = no_houses() + [1, HALF]
    found["word"] = bad_words(3) + [[3], [True], [0, False], [Ratio(1)], [-1]]
    found["mixture"] = no_lists() + [terms * 21, terms[0], [[[0], 2]], [([0], 2, 1)], [([0],)], [()], [(0, 2)]]
    found["mixture"] += [[([3], 1)], [([0] * 17, 1)], [([True], 1)], [([0], True)], [([], None)], [(2, [0])]]
    found["mixture"] += [[terms[0], one] for one in no_lists()] + [[(one, 1)] for one in bad_words(3)]
    found["mixture"] += [[([0], one)] for one in no_numbers()]
    found["room"] += [[2, []], [2, [[1, 2]]], (2,), (2, [], []), (), (0, []), (5, []), (-1, []), (True, []),
                      (True, [[1]]), (Ratio(2), [[1, 2]]), ("2", []), (2, None), (2, 5), (2, [1, 2]), (2, [[1]]),
                      (2, [[1, 2, 3]]), (2, [[1, True]]), (2, [[2, 1]]), (2, [[0, 0]]), (2, [[0, 1], [1, 0]]),
                      (2, [[1, 1], [0, 1]]), (2, [[1, 0], [0, 1], [0, 0]]), (1, [[1], [1]]), (1, [[0]]),
                      (3, [[1, 0, 0], [0, 2, 0]]), ([[1, 2]], 2), (2, {}), (2, ([1, 2], "ab"))]
    found["room"] += [(one, []) for one in no_counts()] + spoiled((2, [[1, 0], [0, 1]]))
    return found


class SortsTest(PackageTest):
    def test_sorts(self):
        self.gives(SORTS, sorts)
        sorts().clear()
        self.gives(SORTS, sorts)

    def test_values_of_the_sort(self):
        for sort, value, _ in FORMS + other_forms():
            self.gives(True, is_of_sort, sort=sort, value=value)

    def test_values_of_no_such_sort(self):
        for sort, values in wrong_values().items():
            for value in values:
                self.same(is_of_sort(sort, value), False)
                self.same(is_of_sort(value=value, sort=sort), False)

    def test_one_value_of_several_sorts(self):
        for value, wanted in [([1, 0], ["row", "word"]), ([], ["word", "mixture"]), (0, ["number"]),
                              ([[1]], ["table"]), ((2, []), ["room"]), ((1, 1), ["row", "word"]), ([3], ["row"]),
                              (((0,),), ["table"]), ((1, [[1]]), ["room"]), ((), ["word", "mixture"]),
                              ([Ratio(1), 0], ["row"]), (HALF, ["number"]), (True, [])]:
            self.assertEqual([sort for sort in SORTS if is_of_sort(sort, value)], wanted, value)

    def test_wrong_sorts(self):
        others = no_lists() + [[], ["row"], (), Odd()]
        for sort in ["", "numbers", "Number", "number ", "line", "term", "words"] + others:
            self.fails_both(InvalidSort, {"value": sort}, is_of_sort, sort=sort, value=1)
            self.fails_both(InvalidSort, {"value": sort}, written, sort=sort, value=1)


class WrittenTest(PackageTest):
    def test_forms(self):
        for sort, value, form in FORMS + other_forms():
            self.gives(form, written, sort=sort, value=value)

    def test_wrong_values(self):
        for sort, values in wrong_values().items():
            for value in values:
                self.fails_both(InvalidValue, {"value": value}, written, sort=sort, value=value)

    def test_first_error(self):
        self.fails(InvalidSort, {"value": "odd"}, written, value=None, sort="odd")
        self.fails(InvalidValue, {"value": True}, written, value=True, sort="number")


if __name__ == "__main__":
    unittest.main()
