"""The sorts of values, and their written forms [91]."""
from tracewords.errors import InvalidSort, InvalidValue
from tracewords.houses import MOST_LETTERS, House, are_letters_at
from tracewords.lots import are_terms
from tracewords.ratios import are_numbers, is_number
from tracewords.solved import are_rows_of, are_steps
from tracewords.tables import LARGEST, is_size, is_table

SORTS = ("number", "row", "table", "house", "word", "mixture", "room")


def sorts():
    """The list of the words of the sorts, in their sequence."""
    return list(SORTS)


def is_of_sort(sort, value):
    """Whether any value is one of this sort."""
    check_sort(sort)
    match sort:
        case "number":
            return is_number(value)
        case "row":
            return are_numbers(value) and 1 <= len(value) <= LARGEST
        case "table":
            return is_table(value)
        case "house":
            return isinstance(value, House)
        case "word":
            return are_letters_at(value, MOST_LETTERS)
        case "mixture":
            return are_terms(value, MOST_LETTERS)
    return is_sized_room(value)


def written(sort, value):
    """The written form of a value of this sort."""
    if not is_of_sort(sort, value):
        raise InvalidValue(value)
    match sort:
        case "number":
            return line_of(sort, [value])
        case "table":
            return line_of(sort, [len(value)]) + number_lines(value)
        case "house":
            return line_of(sort, [value.width]) + "".join([number_lines(letter) for letter in value.letters()])
        case "mixture":
            return line_of(sort, []) + "".join([line_of("term", [number, *word]) for word, number in value])
        case "room":
            return line_of(sort, [value[0]]) + number_lines(value[1])
    return line_of(sort, value)


def check_sort(sort):
    """Raise InvalidSort unless it is the word of a sort."""
    if sort not in SORTS:
        raise InvalidSort(sort)


def is_sized_room(value):
    """Whether any value is a tuple of a size and a list in steps of rows of this size."""
    if not isinstance(value, tuple) or len(value) != 2 or not is_size(value[0]):
        return False
    return are_rows_of(value[1], value[0], value[0]) and are_steps(value[1])


def line_of(word, numbers):
    """The line of a word and numbers, parted by blanks."""
    return " ".join([word] + [str(number) for number in numbers]) + "\n"


def number_lines(rows):
    """The lines of rows of numbers."""
    return "".join([line_of("line", row) for row in rows])
