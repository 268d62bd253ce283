"""Claims, their contraries, and the papers that show them [93], [94]."""
from tracewords.alike import alike_sums, is_unlike_word, unlike_word
from tracewords.basics import copied, is_count, is_list
from tracewords.changes import change, is_change
from tracewords.errors import InvalidClaim, NotParted
from tracewords.houses import House, is_word
from tracewords.lots import base_words, dimension, every_table, is_closed, is_mixture_of, lot_rows, mixture_of
from tracewords.nil import is_nil_mixture, nil_mixture
from tracewords.rooms import MOST_ROWS, led_out
from tracewords.solved import are_rows_of, is_made, steps_of, whole_steps
from tracewords.sums import parts, sums_of
from tracewords.tables import is_table, led, long_row

WORDS = (("all", "less"), ("made", "notmade"), ("parts", "nil"), ("alike", "unlike"), ("kept", "ledout"))


def words():
    """The list of the tuples of a claim's word and its contrary's."""
    return list(WORDS)


def is_claim(value):
    """Whether any value is a claim."""
    if not isinstance(value, tuple) or len(value) < 2 or not isinstance(value[0], str):
        return False
    word, house, *others = value
    if not isinstance(house, House) or len(others) > 1:
        return False
    if len(others) == 0:
        return word in ("all", "less", "parts", "nil")
    return is_other_part(word, house, others[0])


def is_true(claim):
    """Whether the claim is true."""
    check_claim(claim)
    word, *told = claim
    first, _ = line_with(word)
    return is_first_true(first, told) == (word == first)


def contrary(claim):
    """The contrary claim."""
    check_claim(claim)
    word, *told = claim
    first, second = line_with(word)
    return tuple([second if word == first else first] + copied(told))


def paper_of(claim):
    """A paper of the claim; None if it is not true, or its kind has none."""
    if not is_true(claim):
        return None
    word, *told = claim
    match word:
        case "all" | "parts":
            return base_words(*told)
        case "less" | "notmade":
            return lot_rows(told[0])
        case "made":
            return mixture_of(*told)
        case "nil":
            return nil_mixture(*told)
        case "alike":
            return change(*told)
        case "unlike":
            return unlike_word(*told)
        case "ledout":
            return led_out(*told)
    return None


def is_paper_of(claim, value):
    """Whether any value is a paper of the claim."""
    check_claim(claim)
    word, house, *others = claim
    match word:
        case "all":
            return are_free_words(house, value) and len(value) == house.width * house.width
        case "less":
            return is_closed(house, value) and len(value) < house.width * house.width
        case "made":
            return is_mixture_of(house, others[0], value)
        case "notmade":
            return is_closed(house, value) and not is_made(value, long_row(others[0]))
        case "parts":
            return are_parting_words(house, value)
        case "nil":
            return is_nil_mixture(house, value)
        case "alike":
            return is_change(house, others[0], value)
        case "unlike":
            return is_unlike_word(house, others[0], value)
        case "ledout":
            return is_led_out(house, others[0], value)
    return False


def check_claim(claim):
    """Raise InvalidClaim unless it is a claim."""
    if not is_claim(claim):
        raise InvalidClaim(claim)


def line_with(word):
    """The tuple of the two words of the line in which this one stands."""
    return [line for line in WORDS if word in line][0]


def is_other_part(word, house, value):
    """Whether any value may stand behind the house in a claim of this word."""
    match word:
        case "made" | "notmade":
            return is_table(value) and len(value) == house.width
        case "alike" | "unlike":
            return isinstance(value, House) and value.many == house.many
        case "kept" | "ledout":
            return are_rows_of(value, MOST_ROWS, house.width)
    return False


def is_first_true(first, told):
    """Whether the claim of the first word of a line and of these parts is true."""
    match first:
        case "all":
            return every_table(*told)
        case "made":
            return mixture_of(*told) is not None
        case "parts":
            return parts(*told)
        case "alike":
            check_parted(told)
            return alike_sums(*told)
    return led_out(*told) is None


def check_parted(houses):
    """Raise NotParted unless each of the houses parts."""
    if not all([parts(house) for house in houses]):
        raise NotParted()


def are_free_words(house, value):
    """Whether any value is a list of words of the house whose tables are free."""
    if not is_list(value) or len(value) > house.width * house.width:
        return False
    return all([is_word(house, word) for word in value]) and len(whole_steps(word_rows(house, value))) == len(value)


def are_parting_words(house, value):
    """Whether any value is a list of words with free tables that make the lot, whose sums show that the house parts."""
    if not are_free_words(house, value) or len(value) != dimension(house):
        return False
    # A determinant is not 0 exactly if all rows are free.
    return len(whole_steps(sums_of(word_rows(house, value)))) == len(value)


def word_rows(house, found):
    """The long rows of these words."""
    return [long_row(house.table(word)) for word in found]


def is_led_out(house, rows, value):
    """Whether any value is a tuple of the position of a step of the rows, and of a letter that leads it out."""
    if not isinstance(value, tuple) or len(value) != 2 or not is_count(value[0]) or not is_count(value[1]):
        return False
    found = steps_of(rows)
    position, at = value
    if position >= len(found) or at >= house.many:
        return False
    return not is_made(found, led(found[position], house.letters()[at]))
