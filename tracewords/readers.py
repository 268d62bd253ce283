"""Values read back from their written forms [91], and the wrong line of other strings [92]."""
from tracewords.errors import InvalidText
from tracewords.houses import MOST_LETTERS, House, are_letters_at
from tracewords.lots import MOST_TERMS
from tracewords.numerals import count_of, counts_of, number_of, numbers_of
from tracewords.solved import are_steps
from tracewords.tables import LARGEST, is_size


def read(text):
    """A tuple of the sort and the value that has this written form."""
    if not isinstance(text, str):
        raise InvalidText(0)
    *lines, rest = text.split("\n")
    first = first_part(lines[0]) if len(lines) > 0 else None
    if first is None:
        raise InvalidText(1)
    sort, told = first
    found = []
    for at, line in enumerate(lines[1:]):
        part = next_part(sort, told, found, line)
        if part is None:
            raise InvalidText(at + 2)
        found.append(part)
    # What stands behind the last line feed is no line of any form; and a line that lacks has the same number.
    if rest != "" or lines_lack(sort, told, found):
        raise InvalidText(len(lines) + 1)
    return (sort, value_of(sort, told, found))


def first_part(line):
    """A tuple of the sort and what else the first line tells; None if it begins no form."""
    sort, *words = line.split(" ")
    told = first_told(sort, words)
    return None if told is None else (sort, told)


def first_told(sort, words):
    """What the words behind that of the sort tell: a value, or a size; None if they are wrong."""
    match sort:
        case "number":
            return number_of(words[0]) if len(words) == 1 else None
        case "row":
            return numbers_of(words) if 1 <= len(words) <= LARGEST else None
        case "word":
            return word_of(words)
        case "mixture":
            return [] if len(words) == 0 else None
        case "table" | "house" | "room":
            return size_of(words)
    return None


def next_part(sort, told, found, line):
    """What a further line tells behind what was found; None if no form has it there."""
    word, *words = line.split(" ")
    if word == "term" and sort == "mixture" and len(found) < MOST_TERMS:
        return term_of(words)
    if word != "line" or not has_room(sort, told, found) or len(words) != told:
        return None
    row = numbers_of(words)
    if row is None or (sort == "room" and not are_steps(found + [row])):
        return None
    return row


def has_room(sort, told, found):
    """Whether a form of this sort and size may have a further row."""
    match sort:
        case "table":
            return len(found) < told
        case "house":
            return len(found) < told * MOST_LETTERS
    return sort == "room"


def lines_lack(sort, told, found):
    """Whether a form of which this was found is not done."""
    match sort:
        case "table":
            return len(found) < told
        case "house":
            # The last letter must have all its rows.
            return len(found) == 0 or len(found) % told != 0
    return False


def value_of(sort, told, found):
    """The value whose form is done."""
    match sort:
        case "table" | "mixture":
            return found
        case "house":
            return House([found[at:at + told] for at in range(0, len(found), told)])
        case "room":
            return (told, found)
    return told


def size_of(words):
    """The SIZE that is the only one of the words; None if it is none."""
    size = count_of(words[0]) if len(words) == 1 else None
    return size if is_size(size) else None


def word_of(words):
    """The word of so many letters as a house may have; None if it is none."""
    found = counts_of(words)
    return found if are_letters_at(found, MOST_LETTERS) else None


def term_of(words):
    """The tuple of a word and a number, which stands ahead of it; None if it is none."""
    number = number_of(words[0]) if len(words) > 0 else None
    found = word_of(words[1:])
    return None if number is None or found is None else (found, number)
