"""The words of the commands [98]."""
from tracewords.houses import LONGEST_WORD, MOST_LETTERS
from tracewords.numerals import DIGITS, count_of, number_of
from tracewords.rooms import MOST_ROWS
from tracewords.tables import LARGEST

LONGEST_NAME = 8
LETTERS = "abcdefghijklmnopqrstuvwxyz"
HIGHEST_COUNT = 99
HIGHEST_NUMBER = 999999

# What stands behind the words: dots for as many more of the kind ahead as may stand. FRESH is a label that is noted by
# the command, CLAIM the word of a claim, behind which stand the things that CLAIMS tells.
DEEDS = {
    "table": "NEW ROW ..", "idle": "NEW COUNT",
    "times": "NEW TABLE OTHER", "mixed": "NEW TABLE OTHER NUMBER", "scaled": "NEW TABLE NUMBER",
    "undone": "NEW TABLE", "about": "NEW TABLE",
    "house": "NEW TABLE ..",
    "word": "NEW HOUSE WORD",
    "turned": "NEW HOUSE", "side": "NEW HOUSE OTHER", "led": "NEW HOUSE TABLE",
    "cut": "NEW HOUSE ROWS", "rest": "NEW HOUSE ROWS",
    "change": "NEW HOUSE OTHER", "onto": "NEW HOUSE ROWS",
    "rows": "NEW ROW ..",
    "room": "NEW HOUSE ROWS", "nilroom": "NEW HOUSE",
    "sum": "NEW HOUSE ROWS OTHER", "meet": "NEW HOUSE ROWS OTHER",
    "noughts": "NEW HOUSE TABLE", "images": "NEW HOUSE TABLE",
    "partner": "NEW HOUSE ROWS",
    "entry": "TABLE COUNT COUNT NUMBER", "put": "HOUSE COUNT TABLE", "row": "ROWS COUNT ROW",
    "drop": "NAME",
    "claim": "FRESH CLAIM",
    "forget": "LABEL",
}

CLAIMS = {
    "all": "HOUSE", "less": "HOUSE",
    "made": "HOUSE TABLE", "notmade": "HOUSE TABLE",
    "parts": "HOUSE", "nil": "HOUSE",
    "alike": "HOUSE OTHER", "unlike": "HOUSE OTHER",
    "kept": "HOUSE ROWS", "ledout": "HOUSE ROWS",
}

OTHERS = {
    "undo": "", "redo": "",
    "state": "LABEL", "states": "",
    "claimed": "LABEL",
    "names": "",
    "show": "NAME",
    "trace": "TABLE", "determinant": "TABLE", "line": "TABLE",
    "wordsum": "HOUSE WORD", "base": "HOUSE", "dimension": "HOUSE",
    "every": "HOUSE", "parted": "HOUSE",
    "rank": "HOUSE", "counts": "HOUSE", "five": "HOUSE",
    "out": "HOUSE ROWS", "apart": "HOUSE OTHER",
    "same": "NAME OTHER",
}


def is_name(value):
    """Whether any value is a name."""
    if not isinstance(value, str) or not 1 <= len(value) <= LONGEST_NAME:
        return False
    return value[0] in LETTERS and all([sign in LETTERS or sign in DIGITS for sign in value])


def is_command(value):
    """Whether any value is a string that is a command by its words alone."""
    return parsed(value) is not None


def is_deed(value):
    """Whether any value is a command of the first table."""
    return is_command(value) and value.split(" ")[0] in DEEDS


def parsed(value):
    """A tuple of a command's word, the kinds of what stands behind it, and what stands there; None of another value."""
    if not isinstance(value, str):
        return None
    word, *texts = value.split(" ")
    kinds = kinds_behind(word, texts)
    if kinds is None or len(kinds) != len(texts):
        return None
    found = [read_part(kind, text) for kind, text in zip(kinds, texts)]
    return (word, kinds, found) if all([one is not None for one in found]) else None


def kinds_behind(word, texts):
    """The kinds of things that stand behind a command's word; None if it is no word of a command."""
    pattern = DEEDS.get(word, OTHERS.get(word))
    if pattern is None:
        return None
    if word == "claim" and len(texts) > 1:
        pattern = pattern + " " + CLAIMS.get(texts[1], "")
    kinds = pattern.split()
    return repeated(kinds[:-1], len(texts)) if kinds[-1:] == [".."] else kinds


def repeated(kinds, many):
    """The kinds with the last one as often as it may stand, so that there are this many; None if there are not."""
    least, most = (0, MOST_ROWS) if kinds[-1] == "ROW" else (1, MOST_LETTERS)
    often = many - len(kinds) + 1
    return kinds[:-1] + [kinds[-1]] * often if least <= often <= most else None


def read_part(kind, text):
    """What a text of this kind tells; None if it is none."""
    match kind:
        case "COUNT":
            return short_count(text)
        case "NUMBER":
            return short_number(text)
        case "ROW":
            return row_of(text)
        case "WORD":
            return word_of(text)
        case "CLAIM":
            return text if text in CLAIMS else None
    return text if is_name(text) else None


def short_count(text):
    """The COUNT of at most two digits; None if it is none."""
    found = count_of(text)
    return found if found is not None and found <= HIGHEST_COUNT else None


def short_number(text):
    """The NUMBER of at most six digits above and below the stroke, a Ratio; None if it is none."""
    found = number_of(text)
    if found is None or abs(found.top) > HIGHEST_NUMBER or found.bottom > HIGHEST_NUMBER:
        return None
    return found


def row_of(text):
    """The list of 1 to 4 NUMBERS with commas between; None if it is none."""
    found = [short_number(one) for one in text.split(",")]
    return found if len(found) <= LARGEST and all([one is not None for one in found]) else None


def word_of(text):
    """The list of 1 to 16 COUNTS with commas between, or none for the empty word; None if it is none."""
    if text == "-":
        return []
    found = [short_count(one) for one in text.split(",")]
    return found if len(found) <= LONGEST_WORD and all([one is not None for one in found]) else None
