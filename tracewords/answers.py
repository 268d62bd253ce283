"""The answers to commands [97], [98]."""
from tracewords.alike import unlike_word
from tracewords.fives import five
from tracewords.houses import House
from tracewords.lots import base_words, dimension, every_table
from tracewords.rooms import led_out
from tracewords.rounds import line_numbers
from tracewords.sums import counts, parts, sums_rank
from tracewords.tables import determinant, sum_on


def told_changes(before, after):
    """The answer to a deed that turned the one shelf into the other one."""
    fresh = [label for label in after.told if before.told.get(label, "") != after.told[label]]
    return told_states({label: after.told[label] for label in fresh})


def told_states(told):
    """The labels with their states, sorted."""
    if len(told) == 0:
        return "-"
    return ", ".join([f"{label} {told[label]}" for label in sorted(list(told))])


def answer(shelf, word, values, held):
    """The answer to a command that is no deed, and does none.

    `values` is what stands behind the command's word, `held` the same with things in the place of names.
    """
    match word:
        case "state":
            return shelf.told[values[0]]
        case "states":
            return told_states(shelf.told)
        case "claimed":
            return " ".join(shelf.claims[values[0]])
        case "names":
            return " ".join(sorted(list(shelf.things))) if len(shelf.things) > 0 else "-"
        case "show":
            return shown(held[0])
        case "same":
            return yes_or_no(held[0] == held[1])
        case "trace":
            return str(sum_on(*held))
        case "determinant":
            return str(determinant(*held))
        case "line":
            return with_blanks(line_numbers(*held))
    return answer_of_house(word, held)


def answer_of_house(word, held):
    """The answer to a command that asks of a House, and what stands behind it."""
    match word:
        case "wordsum":
            return str(held[0].word_sum(held[1]))
        case "base":
            return " ".join([shown_word(one) for one in base_words(*held)])
        case "dimension":
            return str(dimension(*held))
        case "every":
            return yes_or_no(every_table(*held))
        case "parted":
            return yes_or_no(parts(*held))
        case "rank":
            return str(sums_rank(*held))
        case "counts":
            return with_blanks(counts(*held))
        case "five":
            return with_blanks(five(*held))
        case "out":
            found = led_out(*held)
            return "none" if found is None else with_blanks(found)
    found = unlike_word(*held)
    return "none" if found is None else shown_word(found)


def shown(thing):
    """A table, a list of rows or a House, as commands tell it."""
    if isinstance(thing, House):
        return " ; ".join([shown(letter) for letter in thing.letters()])
    if len(thing) == 0:
        return "none"
    return " ".join([with_commas(row) for row in thing])


def shown_word(word):
    """A word, as commands tell it."""
    return "-" if len(word) == 0 else with_commas(word)


def with_commas(numbers):
    """The numbers with commas between."""
    return ",".join([str(number) for number in numbers])


def with_blanks(numbers):
    """The numbers with blanks between."""
    return " ".join([str(number) for number in numbers])


def yes_or_no(found):
    """The word for whether something is so."""
    return "yes" if found else "no"
