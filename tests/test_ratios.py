"""[11] Ratios, and what a NUMBER is."""
import copy
import operator
import unittest
from fractions import Fraction

from tests.helper import Odd, PackageTest, fractions, no_integers, no_lists, no_numbers, told
from tracewords.errors import DividedByZero, InvalidNumber
from tracewords.ratios import Ratio, is_number

SOME = [(0, 1), (1, 1), (-1, 1), (1, 2), (-1, 2), (2, 3), (-7, 4), (5, 1), (123456, 654321), (-999999, 999998)]
WHOLE = [0, 1, -1, 2, -5, 999999]


class MakingTest(PackageTest):
    def test_lowest_terms(self):
        for passed, wanted in [((4, 6), (2, 3)), ((4, -6), (-2, 3)), ((-4, -6), (2, 3)), ((-4, 6), (-2, 3)),
                               ((0, 5), (0, 1)), ((0, -5), (0, 1)), ((6, 3), (2, 1)), ((6, -3), (-2, 1)),
                               ((1, 1), (1, 1)), ((3,), (3, 1)), ((10 ** 40, 10 ** 39), (10, 1))]:
            made = Ratio(*passed)
            self.same((made.top, made.bottom), wanted)

    def test_by_name(self):
        self.assertEqual(Ratio(top=1, bottom=2), Ratio(1, 2))
        self.assertEqual(Ratio(bottom=-2, top=1), Ratio(-1, 2))
        self.assertEqual(Ratio(top=3), Ratio(3, 1))

    def test_parts_are_integers(self):
        self.assertIs(type(Ratio(2, 4).top), int)
        self.assertIs(type(Ratio(2, 4).bottom), int)

    def test_parts_are_read_only(self):
        for name in ["top", "bottom", "sign", "is_whole"]:
            with self.assertRaises(AttributeError):
                setattr(Ratio(1, 2), name, 5)

    def test_sign(self):
        for number, wanted in [(Ratio(3, 4), 1), (Ratio(-3, 4), -1), (Ratio(0, 9), 0), (Ratio(3, -4), -1),
                               (Ratio(1, 9), 1), (Ratio(-1, 9), -1), (Ratio(1), 1)]:
            self.same(number.sign, wanted)

    def test_is_whole(self):
        for number, wanted in [(Ratio(4, 2), True), (Ratio(0), True), (Ratio(-3), True), (Ratio(1, 2), False)]:
            self.same(number.is_whole, wanted)

    def test_wrong_top(self):
        for value in no_integers():
            self.fails_both(InvalidNumber, {"value": value}, Ratio, top=value)
            self.fails_both(InvalidNumber, {"value": value}, Ratio, top=value, bottom=2)

    def test_wrong_bottom(self):
        for value in no_integers() + [0]:
            self.fails_both(InvalidNumber, {"value": value}, Ratio, top=1, bottom=value)

    def test_the_first_wrong_part_is_told(self):
        self.fails(InvalidNumber, {"value": "a"}, Ratio, "a", 0)
        self.fails(InvalidNumber, {"value": True}, Ratio, True, "b")
        self.fails(InvalidNumber, {"value": None}, Ratio, bottom=0, top=None)
        self.fails(InvalidNumber, {"value": False}, Ratio, 1, False)


class ReckoningTest(PackageTest):
    def check(self, made, wanted):
        self.assertIs(type(made), Ratio)
        self.same((made.top, made.bottom), (wanted.numerator, wanted.denominator))

    def test_sums_differences_products(self):
        for sign in [operator.add, operator.sub, operator.mul]:
            for mine in SOME:
                for other in SOME:
                    self.check(sign(Ratio(*mine), Ratio(*other)), sign(Fraction(*mine), Fraction(*other)))
                for whole in WHOLE:
                    self.check(sign(Ratio(*mine), whole), sign(Fraction(*mine), whole))
                    self.check(sign(whole, Ratio(*mine)), sign(whole, Fraction(*mine)))

    def test_minus_in_front(self):
        for mine in SOME:
            self.check(-Ratio(*mine), -Fraction(*mine))

    def test_over(self):
        for mine in SOME:
            for other in SOME[1:]:
                self.check(Ratio(*mine).over(Ratio(*other)), Fraction(*mine) / Fraction(*other))
            for whole in WHOLE[1:]:
                self.check(Ratio(*mine).over(other=whole), Fraction(*mine) / whole)

    def test_over_nought(self):
        for value in [0, Ratio(0), Ratio(0, -7)]:
            self.fails(DividedByZero, {}, Ratio(1, 2).over, value)
            self.fails(DividedByZero, {}, Ratio(0).over, other=value)

    def test_size(self):
        for mine in SOME:
            self.check(Ratio(*mine).size(), abs(Fraction(*mine)))

    def test_less_and_not_greater(self):
        for mine in SOME:
            for other in SOME:
                self.same(Ratio(*mine).is_below(Ratio(*other)), Fraction(*mine) < Fraction(*other))
                self.same(Ratio(*mine).is_at_most(other=Ratio(*other)), Fraction(*mine) <= Fraction(*other))
            for whole in WHOLE:
                self.same(Ratio(*mine).is_below(other=whole), Fraction(*mine) < whole)
                self.same(Ratio(*mine).is_at_most(whole), Fraction(*mine) <= whole)

    def test_no_number_on_the_right(self):
        for value in no_numbers():
            for sign in [operator.add, operator.sub, operator.mul]:
                self.fails(InvalidNumber, {"value": value}, sign, Ratio(1, 2), value)

    def test_no_number_for_methods(self):
        for value in no_numbers():
            for method in [Ratio(1, 2).over, Ratio(1, 2).is_below, Ratio(0).is_at_most]:
                self.fails_both(InvalidNumber, {"value": value}, method, other=value)

    def test_bools_are_refused_on_both_sides(self):
        for sign in [operator.add, operator.sub, operator.mul]:
            self.fails(InvalidNumber, {"value": True}, sign, Ratio(1), True)
            self.fails(InvalidNumber, {"value": True}, sign, True, Ratio(1))

    def test_nothing_is_changed(self):
        mine, other = Ratio(1, 2), Ratio(-3, 4)
        found = [mine + other, mine - 1, 2 * mine, -mine, mine.over(other), mine.size(), Ratio.total([mine, other])]
        self.assertEqual(len(found), 7)
        self.assertEqual((mine.top, mine.bottom, other.top, other.bottom), (1, 2, -3, 4))


class EqualTest(PackageTest):
    def test_equal(self):
        self.same(Ratio(1, 2) == Ratio(2, 4), True)
        self.same(Ratio(1, 2) != Ratio(2, 4), False)
        self.same(Ratio(0, 3) == Ratio(0, -9), True)

    def test_not_equal(self):
        for other in [Ratio(1, 3), Ratio(-1, 2), Ratio(2), Ratio(2, 1)]:
            self.same(Ratio(1, 2) == other, False)
            self.same(Ratio(1, 2) != other, True)

    def test_never_equal_to_another_kind(self):
        for number, other in [(Ratio(1), 1), (Ratio(0), 0), (Ratio(1), True), (Ratio(0), False), (Ratio(0), None),
                              (Ratio(1), "1"), (Ratio(1), Fraction(1)), (Ratio(1), (1, 1)), (Ratio(1), [1]),
                              (Ratio(1), Odd())]:
            self.same(number == other, False)
            self.same(other == number, False)
            self.same(number != other, True)

    def test_copies_are_equal(self):
        self.assertEqual(copy.deepcopy(Ratio(3, 7)), Ratio(3, 7))


class TotalTest(PackageTest):
    def test_total(self):
        self.gives(Ratio(0), Ratio.total, numbers=[])
        self.gives(Ratio(0), Ratio.total, numbers=())
        self.gives(Ratio(5), Ratio.total, numbers=[5])
        self.gives(Ratio(13, 6), Ratio.total, numbers=[Ratio(1, 2), 1, Ratio(2, 3)])
        self.gives(Ratio(13, 6), Ratio.total, numbers=(Ratio(1, 2), 1, Ratio(2, 3)))
        self.gives(Ratio(0), Ratio.total, numbers=[1, -1, Ratio(1, 3), Ratio(-1, 3)])

    def test_no_list(self):
        for value in no_lists():
            self.fails_both(InvalidNumber, {"value": value}, Ratio.total, numbers=value)

    def test_first_wrong_element(self):
        for value in no_numbers():
            self.fails_both(InvalidNumber, {"value": value}, Ratio.total, numbers=[1, value, "later"])
        self.fails(InvalidNumber, {"value": True}, Ratio.total, (Ratio(1), True))


class TextTest(PackageTest):
    def test_str(self):
        for number, wanted in [(Ratio(7, 2), "7/2"), (Ratio(-7, 2), "-7/2"), (Ratio(4, 2), "2"), (Ratio(0, 5), "0"),
                               (Ratio(-3), "-3")]:
            self.same(str(number), wanted)

    def test_repr(self):
        for number, wanted in [(Ratio(3, 2), "Ratio(3, 2)"), (Ratio(2), "Ratio(2, 1)"), (Ratio(4, -6), "Ratio(-2, 3)"),
                               (Ratio(0, 7), "Ratio(0, 1)")]:
            self.same(repr(number), wanted)


class NumberTest(PackageTest):
    def test_numbers(self):
        for value in [0, 1, -1, 10 ** 30, Ratio(0), Ratio(1, 2)]:
            self.gives(True, is_number, value=value)

    def test_no_numbers(self):
        for value in no_numbers():
            self.assertIs(is_number(value), False, value)
            self.assertIs(is_number(value=value), False, value)


class HelperTest(PackageTest):
    def test_expected_values(self):
        self.same(told([1, (Fraction(1, 2),)]), [Ratio(1), (Ratio(1, 2),)])
        self.same(fractions([Ratio(1, 2), 3]), [Fraction(1, 2), Fraction(3)])


if __name__ == "__main__":
    unittest.main()
