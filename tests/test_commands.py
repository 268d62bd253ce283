"""[95] names, [98] the words of the commands."""
import unittest

from tests.helper import Odd, PackageTest, no_lists
from tracewords.commands import is_command, is_deed, is_name

# Rows of both tables: a command's word, then good things to stand behind it.
DEEDS = [
    "table x 0,1 0,0", "idle x 2", "times x a b", "mixed x a b 1/2", "scaled x a -3", "undone x a", "about x a",
    "house h a b", "word x h 0,1", "turned g h", "side g h i", "led g h a", "cut g h r", "rest g h r", "change x h i",
    "onto x h r", "rows r 1,0 0,1", "room r h s", "nilroom r h", "sum r h s t", "meet r h s t", "noughts r h a",
    "images r h a", "partner r h s", "entry a 0 1 5", "put h 0 a", "row r 0 1,2", "drop a", "forget k",
    "claim k all h", "claim k less h", "claim k parts h", "claim k nil h", "claim k made h a", "claim k notmade h a",
    "claim k alike h i", "claim k unlike h i", "claim k kept h r", "claim k ledout h r",
]
OTHERS = [
    "undo", "redo", "state k", "states", "claimed k", "names", "show a", "trace a", "determinant a", "line a",
    "wordsum h -", "base h", "dimension h", "every h", "parted h", "rank h", "counts h", "five h", "out h r",
    "apart h i",
    "same a b",
]
# Those behind which more of the last kind may stand, with the greatest number of them.
MORE = {"table": 40, "rows": 40, "house": 3}

NO_NUMBERS = ["-0", "00", "01", "2/4", "0/2", "1/1", "1/0", "/2", "1/", "", "-", "--1", "+1", "1.5", "1e3", "x",
              "1000000",
              "-1000000", "1/1000000", "1000000/7", "1,", ",1", "1 2", "1/02", "1/-2", "True"]
NUMBERS = ["0", "1", "-1", "999999", "-999999", "1/2", "-1/2", "999999/5", "1/999999", "-999998/999999"]
NO_COUNTS = ["-1", "100", "01", "00", "1/2", "x", "", "-0", "+1", "1.0", "999", "1,2", "-", " 1"]
NAMES = ["a", "z9", "abcdefgh", "a1234567", "table", "undo", "all", "h", "k"]
NO_NAMES = ["", "1", "1a", "A", "aB", "abcdefghi", "a1234567b", "a-b", "a_b", "a.b", "a,b", "-", "0", "a b", " a", "a ",
            "a\n", "\n", "a/b", "(a)"]


class NameTest(PackageTest):
    def test_names(self):
        for value in NAMES:
            self.gives(True, is_name, value=value)

    def test_no_names(self):
        for value in NO_NAMES:
            self.gives(False, is_name, value=value)

    def test_each_sign(self):
        for code in range(32, 127):
            small, digit = "a" <= chr(code) <= "z", "0" <= chr(code) <= "9"
            self.same(is_name(chr(code)), small)
            self.same(is_name("a" + chr(code)), small or digit)
            self.same(is_name("abcdefg" + chr(code)), small or digit)

    def test_values_of_every_kind(self):
        for value in no_lists() + [[], ["a"], ("a",), Odd(), b"a"]:
            if value != "ab":
                self.same(is_name(value), False)
                self.same(is_name(value=value), False)


class CommandTest(PackageTest):
    def let(self, *commands):
        """Each of these is a command."""
        for command in commands:
            self.gives(True, is_command, value=command)
            self.gives(command.split(" ")[0] in [deed.split(" ")[0] for deed in DEEDS], is_deed, value=command)

    def not_let(self, *commands):
        """None of these is a command, so none a deed."""
        for command in commands:
            self.gives(False, is_command, value=command)
            self.gives(False, is_deed, value=command)

    def test_examples(self):
        self.let("table x 0,1 0,0", "house h x y", "wordsum h -", "undo")
        self.not_let("table x 0, 1", "house h")
        self.gives(True, is_deed, value="house h x y")
        self.gives(False, is_deed, value="undo")

    def test_each_row(self):
        self.let(*DEEDS, *OTHERS)
        for command in DEEDS:
            self.gives(True, is_deed, value=command)
        for command in OTHERS:
            self.gives(False, is_deed, value=command)

    def test_too_few_and_too_many_things(self):
        for command in DEEDS + OTHERS:
            things = command.split(" ")
            least = {"table": 2, "rows": 2, "house": 3}.get(things[0], len(things))
            for many in range(1, least):
                self.not_let(" ".join(things[:many]))
            if things[0] not in MORE:
                self.not_let(command + " a", command + " 0", command + " 1,2", command + " -")
        self.let("table x", "rows r", "house h a", "house h a b c")
        self.not_let("house h a b c d", "table", "rows", "house", "claim", "claim k", "claim all h", "claim k h")

    def test_more_of_a_kind(self):
        for many in (0, 1, 39, 40):
            self.let("table x" + " 1,2" * many, "rows x" + " 1,2" * many)
        self.not_let("table x" + " 1,2" * 41, "rows x" + " 1,2" * 41)

    def test_needless_blanks_and_lines(self):
        for command in DEEDS + OTHERS:
            self.not_let(" " + command, command + " ", command + "\n", "\n" + command, command + "\nundo")
            if " " in command:
                at = command.index(" ")
                self.not_let(command[:at] + " " + command[at:], command[:at] + command[at + 1:], command[:at] + "\n" +
                             command[at + 1:])

    def test_words(self):
        for command in DEEDS + OTHERS:
            word, blank, rest = command.partition(" ")
            self.not_let(word.upper() + blank + rest, "x" + command, word + "s" + blank + rest if word not in
                         ("state", "row") else "xx", blank + rest)
        self.not_let("", " ", "x", "tables x", "claims", "claim k some h", "claim k All h", "claim k made h", "-",
                     "new x",
                     "claim k all h a", "claim k kept h", "claim k parts h r", "claim k alike h", "claim k alike h i a")

    def test_names_in_each_place(self):
        for command in DEEDS + OTHERS:
            things = command.split(" ")
            for at in [at for at in range(1, len(things)) if len(things[at]) == 1 and things[at] in "abcdghikrstx"]:
                for name in NAMES:
                    self.let(" ".join(things[:at] + [name] + things[at + 1:]))
                for name in [one for one in NO_NAMES if one != "a b"]:
                    self.not_let(" ".join(things[:at] + [name] + things[at + 1:]))

    def test_numbers_in_each_place(self):
        for pattern in ["mixed x a b {}", "scaled x a {}", "entry a 0 1 {}", "table x {}", "table x 1 {},2",
                        "rows r 2,{}", "row r 0 {}", "row r 0 1,{},2,3"]:
            for text in NUMBERS:
                self.let(pattern.format(text))
            for text in NO_NUMBERS:
                if text == "1 2" and pattern.startswith(("table", "rows")):
                    continue
                self.not_let(pattern.format(text))

    def test_counts_in_each_place(self):
        for pattern in ["idle x {}", "entry a {} 1 5", "entry a 0 {} 5", "put h {} a", "row r {} 1,2"]:
            for text in ["0", "1", "9", "10", "99"]:
                self.let(pattern.format(text))
            for text in NO_COUNTS:
                self.not_let(pattern.format(text))

    def test_rows(self):
        for command in ["table x {}", "rows r {}", "row r 0 {}"]:
            for text in ["1", "1,2", "1,2,3", "1,2,3,4", "1/2,-3/4,0,999999"]:
                self.let(command.format(text))
            for text in ["1,2,3,4,5", "1,,2", ",", "1, 2", "1;2", "[1]", "-", "1,-", "a"]:
                self.not_let(command.format(text))
        self.not_let("row r 0", "row r 0 1 2", "row r 0 1,2 3,4")
        self.let("rows r 1 1,2 1,2,3", "table x 1,2,3,4 1")

    def test_words_of_letters(self):
        for command in ["word x h {}", "wordsum h {}"]:
            for text in ["-", "0", "1,0", "2,2,2", "99", "98,99", ",".join("0" * 16)]:
                self.let(command.format(text))
            for text in ["", "0,", ",0", "--", "-,0", "0,-", "100", "00", "-1", "1/2", "a", "0 1", ",".join("0" * 17)]:
                self.not_let(command.format(text))

    def test_values_of_every_kind(self):
        for value in no_lists() + [[], ["undo"], ("undo",), b"undo", Odd(), [["undo"]]]:
            self.same((is_command(value), is_deed(value)), (False, False))
            self.same((is_command(value=value), is_deed(value=value)), (False, False))


if __name__ == "__main__":
    unittest.main()
