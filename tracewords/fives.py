"""Five sums that tell all sums of a house of two letters of size 2 [85], [86]."""
from tracewords.errors import InvalidFive, InvalidWord, NotTwo
from tracewords.houses import are_letters_at, check_house
from tracewords.ratios import Ratio, are_numbers, ratio_row
from tracewords.solved import led_to


def five(house):
    """The tuple of the sums of X, Y, X X, X Y, Y Y."""
    check_house(house)
    check_two(house)
    return five_of(house)


def same_five(house, other):
    """Whether both houses have the same five."""
    check_house(house)
    check_house(other)
    check_two(house)
    check_two(other)
    return five_of(house) == five_of(other)


def word_by(five, word):
    """The sum of the word in each house with this five."""
    told = told_five(five)
    if not are_letters_at(word, 2):
        raise InvalidWord(word)
    return sum_by(told, word)


def every_by(five):
    """Whether each table is in the lots of houses with this five."""
    told = told_five(five)
    return sum_by(told, [0, 0, 1, 1]) != sum_by(told, [0, 1, 0, 1])


def check_two(house):
    """Raise NotTwo unless the house has size 2 and two letters."""
    if house.width != 2 or house.many != 2:
        raise NotTwo()


def five_of(house):
    """The five of a house of two letters of size 2."""
    return tuple([house.word_sum(word) for word in ([0], [1], [0, 0], [0, 1], [1, 1])])


def told_five(value):
    """The five numbers as Ratios; raises InvalidFive unless it is a tuple of five NUMBERS."""
    if not isinstance(value, tuple) or len(value) != 5 or not are_numbers(value):
        raise InvalidFive(value)
    return ratio_row(value)


def sum_by(told, word):
    """The sum of the word, by the five.

    Its table is made of the idle one, X, Y and X Y, with these numbers; each letter leads them on by the five alone.
    """
    numbers = [Ratio(1), Ratio(0), Ratio(0), Ratio(0)]
    for at in word:
        numbers = first_behind(told, numbers) if at == 0 else second_behind(told, numbers)
    first, second, _, both, _ = told
    return led_to(numbers, [2, first, second, both])


def first_behind(told, numbers):
    """The numbers of a table with X behind it: Y X and X Y X are told by X X, and by X Y and Y X added up."""
    first, second, squared, both, _ = told
    whole, by_first, by_second, by_both = numbers
    det = determinant_by(first, squared)
    return [by_second * (both - first * second) - by_first * det - by_both * second * det,
            whole + by_first * first + by_second * second + by_both * both,
            by_second * first + by_both * det,
            -by_second]


def second_behind(told, numbers):
    """The numbers of a table with Y behind it: Y Y and X Y Y are told by Y Y."""
    _, second, _, _, squared = told
    whole, by_first, by_second, by_both = numbers
    det = determinant_by(second, squared)
    return [-by_second * det, -by_both * det, whole + by_second * second, by_first + by_both * second]


def determinant_by(number, squared):
    """The determinant of a table of size 2 that has this sum, and whose square has the other one."""
    return (number * number - squared).over(2)
