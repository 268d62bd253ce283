"""Whether two houses have alike sums, and words that tell them apart [61], [62]."""
from tracewords.houses import check_alike_letters, is_word
from tracewords.lots import base_tables
from tracewords.tables import sum_on


def both_words(house, other):
    """The list of the base words of both houses, in sequence."""
    check_alike_letters(house, other)
    return [word for word, _ in base_tables([house, other])]


def unlike_word(house, other):
    """The first base word of both that is an unlike word; None if there is none."""
    check_alike_letters(house, other)
    for word, tables in base_tables([house, other]):
        if sum_on(tables[0]) != sum_on(tables[1]):
            return word
    return None


def alike_sums(house, other):
    """Whether all words have the same sum in both houses."""
    return unlike_word(house, other) is None


def is_unlike_word(house, other, value):
    """Whether any value is a word whose sums in both houses are not the same."""
    check_alike_letters(house, other)
    return is_word(house, value) and house.word_sum(value) != other.word_sum(value)
