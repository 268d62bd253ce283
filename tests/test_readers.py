"""[91] The written form, read back; [92] The wrong line."""
import random
import unittest
from fractions import Fraction

from tests.helper import Odd, PackageTest, told
from tests.test_texts import FORMS, other_forms
from tracewords.errors import InvalidText, TableError
from tracewords.houses import House
from tracewords.ratios import Ratio
from tracewords.readers import read
from tracewords.texts import is_of_sort, written

SIGNS = " -/0123456789\nlinetrmhousbwxg"


def read_back(sort, value):
    """The value as `read` tells it: all numbers Ratios, but for sizes and the letters of words."""
    if sort in ("word", "house"):
        return value
    if sort == "mixture":
        return [(word, told(number)) for word, number in value]
    return (value[0], told(value[1])) if sort == "room" else told(value)


def number(text):
    """What a text tells as a number, however it is written."""
    found = Fraction(text)
    return Ratio(found.numerator, found.denominator)


def numbers(line):
    """What the words behind the first one of a line tell."""
    return [number(text) for text in line.split(" ")[1:]]


def loose_value(sort, lines):
    """A value whose form begins with these lines, if any has: what lacks is filled up with noughts."""
    first, rows = lines[0].split(" ")[1:], lines[1:]
    if sort == "number":
        return number(first[0])
    if sort == "row":
        return numbers(lines[0])
    if sort == "word":
        return [int(text) for text in first]
    if sort == "mixture":
        return [([int(text) for text in row.split(" ")[2:]], number(row.split(" ")[1])) for row in rows]
    size = [1, 2, 3, 4][int(first[0]) - 1]
    found = [numbers(row) for row in rows]
    if sort == "room":
        return (size, found)
    while len(found) % size != 0 or not found:
        found.append([0] * size)
    return found if sort == "table" else House([found[at:at + size] for at in range(0, len(found), size)])


def begins_a_form(lines):
    """Whether some written form begins with these lines: then it is that of the only value that it may be."""
    sort = lines[0].split(" ")[0]
    try:
        value = loose_value(sort, lines)
        return is_of_sort(sort, value) and written(sort, value).startswith("".join(line + "\n" for line in lines))
    except (ValueError, IndexError, ZeroDivisionError):
        return False


def plain_wrong_line(text):
    """The wrong line, by the document's words."""
    lines = text.split("\n")[:-1]
    for many in range(1, len(lines) + 1):
        if not begins_a_form(lines[:many]):
            return many
    return len(lines) + 1


class ReadTest(PackageTest):
    def test_ordinary(self):
        self.gives(("word", []), read, text="word\n")
        self.gives(("room", (2, [])), read, text="room 2\n")
        self.gives(("number", Ratio(1, 2)), read, text="number 1/2\n")
        self.gives(("table", [[Ratio(3)]]), read, text="table 1\nline 3\n")
        self.gives(("mixture", [([0, 0], Ratio(1))]), read, text="mixture\nterm 1 0 0\n")
        self.gives(("house", House([[[2]], [[0]]])), read, text="house 1\nline 2\nline 0\n")
        self.gives(("row", [Ratio(1), Ratio(-3, 2)]), read, text="row 1 -3/2\n")

    def test_each_form(self):
        for sort, value, form in FORMS:
            self.gives((sort, read_back(sort, value)), read, text=form)

    def test_written_again(self):
        for sort, value, _ in FORMS + other_forms():
            form = written(sort, value)
            self.same(written(*read(form)), form)

    def test_letters_of_words_are_integers(self):
        self.same(read("word 0 2 1\n"), ("word", [0, 2, 1]))
        self.same(read("mixture\nterm 2 1 0\n"), ("mixture", [([1, 0], Ratio(2))]))
        self.same(read("room 4\n"), ("room", (4, [])))

    def test_big_numbers(self):
        top, bottom = 10 ** 1999 + 7, 3 ** 4100
        self.gives(("number", Ratio(-top, bottom)), read, text=written("number", Ratio(-top, bottom)))

    def test_no_strings(self):
        for value in [None, True, False, 0, 1, b"word\n", [], ["word\n"], (), {}, Odd(), Odd, len, Ratio(1),
                      House([[[1]]])]:
            self.fails_both(InvalidText, {"line": 0}, read, text=value)


class WrongLineTest(PackageTest):
    def wrong(self, line, text):
        """This is the wrong line of the text."""
        self.fails_both(InvalidText, {"line": line}, read, text=text)
        self.assertEqual(plain_wrong_line(text), line, text)

    def test_empty_and_no_line_feed(self):
        for text in ["", "\n", "\n\n", "word", "x", " ", "number 1", "mixture", "room 2"]:
            self.wrong(1, text)
        self.wrong(2, "mixture\nterm 1")
        self.wrong(3, "table 2\nline 1 2\nline 3 4")
        self.wrong(2, "table 2\nline 1 2")
        self.wrong(2, "room 2\n ")
        self.wrong(2, "number 1\nx")

    def test_lines_lack(self):
        self.wrong(2, "table 2\n")
        self.wrong(2, "house 2\n")
        self.wrong(5, "house 2\nline 1 2\nline 3 4\nline 5 6\n")
        self.wrong(3, "table 2\nline 1 2\n")
        self.wrong(3, "house 2\nline 1 2\n")
        self.wrong(2, "table 1\n")
        self.wrong(2, "house 1\n")
        self.wrong(12, "house 4\n" + "line 0 0 0 0\n" * 10)

    def test_lines_of_another_length(self):
        for line in ["line 1", "line 1 2 3", "line", "line 1 2 ", "line  1 2", "line 1  2", " line 1 2", "1 2",
                     "term 1 2", "line 1,2", "Line 1 2", "lines 1 2", ""]:
            for first in ["table 2", "house 2", "room 2"]:
                self.wrong(2, f"{first}\n{line}\n")
                self.wrong(2, f"{first}\n{line}\nline 1 2\nline 3 4\n")
            self.wrong(3, f"table 2\nline 1 2\n{line}\n")
            self.wrong(4, f"house 2\nline 1 2\nline 3 4\n{line}\n")

    def test_more_lines_than_there_may_be(self):
        self.wrong(4, "table 2\n" + "line 1 2\n" * 3)
        self.wrong(8, "house 2\n" + "line 1 2\n" * 7)
        self.wrong(5, "house 1\n" + "line 1\n" * 4)
        self.wrong(14, "house 4\n" + "line 0 0 0 0\n" * 13)
        self.wrong(42, "mixture\n" + "term 1 0\n" * 41)
        self.wrong(42, "mixture\n" + "term 1 0\n" * 41 + "x\n")
        self.wrong(4, "room 2\nline 1 0\nline 0 1\nline 0 1\n")
        self.wrong(3, "room 1\nline 1\nline 1\n")

    def test_behind_a_form_that_is_done(self):
        for form, line in [("number 1\n", 2), ("row 1 2\n", 2), ("word 0\n", 2), ("word\n", 2),
                           ("table 1\nline 3\n", 3), ("mixture\n", 2), ("mixture\nterm 1\n", 3), ("room 2\n", 2),
                           ("house 1\nline 1\nline 1\n", 4)]:
            for more in ["\n", "x\n", "number 1\n", "word\n", form, " \n", "mixture\n", "x"]:
                self.wrong(line, form + more)
        self.wrong(2, "number 1\nline 1\n")
        self.wrong(2, "word\nterm 1\n")
        self.wrong(2, "mixture\nline 1\n")
        self.wrong(2, "room 1\nterm 1\n")

    def test_rows_that_are_not_in_steps(self):
        self.wrong(3, "room 2\nline 1 2\nline 0 1\n")
        self.wrong(2, "room 2\nline 0 0\n")
        self.wrong(2, "room 2\nline 2 0\n")
        self.wrong(2, "room 2\nline 0 1/2\n")
        self.wrong(3, "room 2\nline 0 1\nline 1 0\n")
        self.wrong(3, "room 2\nline 1 0\nline 1 0\n")
        self.wrong(4, "room 3\nline 1 0 5\nline 0 1 7\nline 0 0 1\n")
        self.wrong(2, "room 2\nline 2 0\nline 1 2 3\n")

    def test_numbers_that_are_none(self):
        for text in ["-0", "01", "00", "-01", "2/4", "0/2", "1/1", "2/1", "1/0", "0/1", "1/01", "1/-2", "-1/-2", "/2",
                     "1/", "/", "-", "--1", "+1", "1/2/3", "1.5", "1e3", "1_0", "x", "", "-/2", "1//2", "12/18", "-0/3",
                     "1/+2", "0x1", "1,", "- 1", "1 /2", "True"]:
            self.wrong(1, f"number {text}\n")
            self.wrong(1, f"row 0 {text}\n")
            self.wrong(3, f"table 2\nline 0 1\nline {text} 1\n")
            self.wrong(2, f"mixture\nterm {text} 1\n")

    def test_words_more_or_less(self):
        for text in ["number", "number ", "number 1 2", "number 1 ", "row", "row ", "row 1 2 3 4 5", "row 1  2",
                     "row 1 ",
                     "table", "table ", "table 2 2", "table 0", "table 5", "table 02", "table -1", "table 2/1",
                     "table x",
                     "table 1/2", "house", "house 0", "house 5", "house 2 1", "room", "room 0", "room 5", "room 2 ",
                     "word ", "word 3", "word -1", "word 01", "word 1/2", "word 0  1", "word" + " 0" * 17, "word -",
                     "mixture 1", "mixture ", "Word", "words", "numbers 1", " word", "line 1", "term 1", "0",
                     "table\t2"]:
            self.wrong(1, text + "\n")
        for text in ["term", "term ", "term 1 3", "term 1 01", "term 1 -1", "term 1 0 ", "term  1", "term 1  0",
                     "term 1" + " 0" * 17, "term 1 1/2", "terms 1", "line 1", "Term 1"]:
            self.wrong(2, f"mixture\n{text}\n")
            self.wrong(3, f"mixture\nterm 1 2\n{text}\nterm 1 0\n")

    def test_the_first_wrong_line_counts(self):
        self.wrong(2, "table 2\nline 1\nline x\nline\n")
        self.wrong(1, "tabel 2\nline 1\n")
        self.wrong(3, "mixture\nterm 1\nterm\nterm x")

    def test_bent_forms(self):
        source = random.Random(921)
        done = 0
        for _ in range(4000):
            text = source.choice(FORMS)[2] if source.random() < 0.7 else source.choice(FORMS[9:14] + FORMS[27:])[2]
            for _ in range(source.choice([1, 1, 2, 3])):
                text = self.bent(source, text)
            if len(text) < 400:
                wanted = plain_wrong_line(text)
                try:
                    found = read(text)
                    self.same(written(*found), text)
                except TableError as error:
                    self.same(error.line, wanted)
                    done += 1
        self.assertGreater(done, 2000)

    @staticmethod
    def bent(source, text):
        """The text with a sign or a line left out, put in, changed or doubled, or with another text behind it."""
        at = source.randrange(len(text) + 1)
        lines = text.split("\n")
        place = source.randrange(len(lines))
        return source.choice([
            text[:at] + text[at + 1:], text[:at] + source.choice(SIGNS) + text[at:],
            text[:at] + source.choice(SIGNS) + text[at + 1:], text[:-1],
            "\n".join(lines[:place] + lines[place + 1:]), "\n".join(lines[:place + 1] + lines[place:]),
            "\n".join(lines[:place] + ["line 0 1"] + lines[place:]), text + source.choice(FORMS)[2],
            "\n".join(lines[place:] + lines[:place])])


if __name__ == "__main__":
    unittest.main()
