"""[95] The desk, [97] deeds and their answers, [98] the tables of the commands."""
import unittest

from tests.helper import Odd, PackageTest, lists_within, no_lists, told, whole_room
from tests.test_commands import DEEDS, NO_NAMES, OTHERS
from tracewords.changes import change, is_change
from tracewords.cuts import cut, rest_house
from tracewords.desk import Desk
from tracewords.errors import (InvalidClaim, InvalidCommand, InvalidLetters, InvalidPlace, InvalidRoom, InvalidRow,
                               InvalidRows, InvalidSize, InvalidTable, InvalidWord, LabelTaken, NameTaken, NoneThere,
                               NotCommuting, NothingToRedo, NothingToUndo, NotParted, NotTwo, NotUndone, NoughtRoom,
                               TooMany, UnknownLabel, UnknownName, UnlikeLetters, UnlikeSizes, WholeRoom)
from tracewords.fives import five
from tracewords.houses import House, about_house, led_house, side
from tracewords.leads import is_commuting
from tracewords.nil import nil_room
from tracewords.partners import is_onto, is_partner
from tracewords.ratios import Ratio
from tracewords.rooms import images, least_room, meet_room, noughts, sum_room
from tracewords.rounds import line_numbers
from tracewords.sums import counts, sums_rank
from tracewords.tables import about, determinant, idle, mixed, scaled, sum_on, times, undone

HALF = Ratio(1, 2)
X, Y = [[0, 1], [0, 0]], [[0, 0], [1, 0]]
SLOPE, CLIMB, DOUBLE, SWAP = [[1, 1], [0, 1]], [[1, 0], [1, 1]], [[1, 0], [0, 2]], [[0, 1], [1, 0]]
FULL, CORNER, LINE = House([X, Y]), House([SLOPE, DOUBLE]), House([DOUBLE])


def filled():
    """A desk with tables x y s d w one three, houses full corner line pair, lists low top none wide."""
    desk = Desk()
    desk.do_all("table x 0,1 0,0", "table y 0,0 1,0", "table s 1,1 0,1", "table d 1,0 0,2", "table w 0,1 1,0",
                "table one 3", "house full x y", "house corner s d", "house line d",
                "rows low 0,1", "rows none", "rows top 1,0")
    return desk


class DeskTest(PackageTest):
    def answers(self, desk, *pairs):
        """Each command has the answer behind it."""
        for command, wanted in zip(pairs[::2], pairs[1::2]):
            self.same(desk.do(command), wanted)

    def refused(self, desk, error, told_parts, command):
        """The command raises this, by `do`, by name and by a call, and nothing is changed."""
        before = self.all_of(desk)
        self.fails(error, told_parts, desk.do, command)
        self.fails(error, told_parts, desk.do, command=command)
        self.fails(error, told_parts, desk, command)
        self.fails(error, told_parts, desk, command=command)
        self.assertEqual(self.all_of(desk), before)

    def all_of(self, desk):
        """All that a desk tells of itself."""
        found = [desk.names, [desk[name] for name in desk.names], desk.labels,
                 [desk.claim_of(one) for one in desk.labels],
                 [desk.fits(one) for one in desk.labels], desk.lines(), len(desk), desk.do("states"), desk.do("names")]
        redone = []
        copied = desk.copy()
        while len(redone) < 400:
            try:
                redone.append(copied.do("redo"))
            except NothingToRedo:
                break
        return found + [redone]


class ThingsTest(DeskTest):
    def test_at_first_none(self):
        desk = Desk()
        self.same((desk.names, desk.labels, len(desk), desk.lines()), ([], [], 0, []))
        self.answers(desk, "names", "-", "states", "-")

    def test_names_and_labels_are_sorted(self):
        desk = Desk()
        desk.do_all("table z 1", "table b 2", "table a9 3", "table a 4", "house h a", "claim y all h", "claim a all h")
        self.same(desk.names, ["a", "a9", "b", "h", "z"])
        self.same(desk.labels, ["a", "y"])
        self.answers(desk, "names", "a a9 b h z", "states", "a true, y true")

    def test_what_is_kept(self):
        desk = filled()
        self.same(desk["x"], told(X))
        self.same(desk["full"], FULL)
        self.same(desk["low"], told([[0, 1]]))
        self.same(desk["none"], [])
        self.same(desk["one"], [[Ratio(3)]])
        for name in desk.names:
            self.same(name in desk, True)

    def test_unknown_names(self):
        desk = filled()
        for value in NO_NAMES + ["other", "X"] + no_lists() + [[], ["x"], ("x",), Odd()]:
            self.fails(UnknownName, {"value": value}, lambda: desk[value])
            self.same(value in desk, False)
        desk.do("drop x")
        self.fails(UnknownName, {"value": "x"}, lambda: desk["x"])
        self.same("x" in desk, False)

    def test_what_is_returned_is_a_copy(self):
        desk = filled()
        desk["x"][0][0] = 7
        desk["low"].append([1, 1])
        desk["low"][0].clear()
        desk.names.clear()
        desk.lines().pop()
        self.same((desk["x"], desk["low"], len(desk.names), len(desk.lines())), (told(X), told([[0, 1]]), 12, 12))
        self.assertFalse([one for one in lists_within(desk["x"]) if any(one is its for its in lists_within(desk["x"]))])
        desk.do("drop one")
        desk.do("claim k kept full low")
        claim = desk.claim_of("k")
        claim[2][0][0] = 7
        claim[2].pop()
        self.same(desk.claim_of("k"), ("kept", FULL, told([[0, 1]])))
        desk.labels.clear()
        self.same(desk.labels, ["k"])

    def test_errors_hold_copies(self):
        desk = filled()
        desk.do("drop w")
        for command, error in [("rest n corner top", InvalidRoom), ("led n line one", InvalidTable),
                               ("house n x one", InvalidLetters), ("claim k made full one", InvalidClaim)]:
            with self.assertRaises(error) as caught:
                desk.do(command)
            for one in lists_within(caught.exception.value):
                one.clear()
        self.same((desk["top"], desk["one"], desk["x"]), (told([[1, 0]]), [[Ratio(3)]], told(X)))

    def test_they_are_read_only_and_not_iterated_over(self):
        desk = filled()
        for name in ["names", "labels"]:
            with self.assertRaises(AttributeError):
                setattr(desk, name, [])
        with self.assertRaises(TypeError):
            list(desk)

    def test_a_table_is_never_a_list_nor_a_list_a_table(self):
        desk = Desk()
        desk.do_all("table t 1,0 0,1", "rows r 1,0 0,1", "house h t")
        self.refused(desk, UnknownName, {"value": "r"}, "house g r")
        self.refused(desk, UnknownName, {"value": "t"}, "room g h t")
        self.refused(desk, UnknownName, {"value": "r"}, "trace r")
        self.refused(desk, UnknownName, {"value": "t"}, "out h t")
        self.refused(desk, UnknownName, {"value": "r"}, "same t r")
        self.refused(desk, UnknownName, {"value": "t"}, "same r t")
        self.refused(desk, UnknownName, {"value": "h"}, "same r h")
        self.refused(desk, UnknownName, {"value": "t"}, "row t 0 1,2")
        self.refused(desk, UnknownName, {"value": "r"}, "entry r 0 0 1")
        self.refused(desk, UnknownName, {"value": "t"}, "put t 0 t")
        self.refused(desk, UnknownName, {"value": "r"}, "claim k made h r")
        self.refused(desk, UnknownName, {"value": "t"}, "claim k kept h t")
        self.refused(desk, UnknownName, {"value": "h"}, "rest g h h")

    def test_what_is_kept_does_not_hang_on_other_names(self):
        desk = filled()
        desk.do("entry x 0 0 5")
        self.same(desk["full"], FULL)
        desk.do("drop x")
        desk.do("put line 0 s")
        desk.do("house g d")
        desk.do("entry s 1 1 9")
        self.same((desk["full"], desk["line"], desk["corner"], desk["g"]), (FULL, House([SLOPE]), CORNER, LINE))


class MakingTest(DeskTest):
    def made(self, command, wanted, desk=None):
        """The deed keeps this under its name, its answer is that nothing changed."""
        desk = filled() if desk is None else desk
        desk.do("drop one")
        self.answers(desk, command, "-")
        name = command.split(" ")[1]
        self.same(desk[name], wanted)
        return desk

    def test_tables(self):
        self.made("table n -1/2", told([[Ratio(-1, 2)]]))
        self.made("table n 1/2,-3 0,999999", told([[HALF, -3], [0, 999999]]))
        self.made("table n 1,2,3,4 0,0,0,0 0,0,0,0 1,1,1,1", told([[1, 2, 3, 4], [0] * 4, [0] * 4, [1] * 4]))
        self.made("idle n 3", idle(3))
        self.made("times n s w", times(SLOPE, SWAP))
        self.made("times n w s", times(SWAP, SLOPE))
        self.made("mixed n s w -1/2", mixed(SLOPE, SWAP, -HALF))
        self.made("mixed n w s 3", mixed(SWAP, SLOPE, 3))
        self.made("scaled n s 5/3", scaled(SLOPE, Ratio(5, 3)))
        self.made("undone n s", undone(SLOPE))
        self.made("about n s", about(SLOPE))
        self.made("word n corner 0,1", CORNER.table([0, 1]))
        self.made("word n corner 1,0", CORNER.table([1, 0]))
        self.made("word n corner -", idle(2))
        self.made("word n line " + ",".join("0" * 16), told([[1, 0], [0, 2 ** 16]]))

    def test_houses(self):
        self.made("house n s", House([SLOPE]))
        self.made("house n s w", House([SLOPE, SWAP]))
        self.made("house n s w s", House([SLOPE, SWAP, SLOPE]))
        self.made("turned n corner", about_house(CORNER))
        self.made("side n full corner", side(FULL, CORNER))
        self.made("side n corner full", side(CORNER, FULL))
        self.made("led n corner s", led_house(CORNER, SLOPE))
        self.made("cut n corner low", cut(CORNER, [[0, 1]]))
        self.made("rest n corner low", rest_house(CORNER, [[0, 1]]))
        self.same(filled().do("drop low"), "-")

    def test_rows(self):
        self.made("rows n 1,0 2,3 0,0", told([[1, 0], [2, 3], [0, 0]]))
        self.made("rows n", [])
        self.made("rows n 1/2", told([[HALF]]))
        self.made("rows n" + " 1,2,3,4" * 40, told([[1, 2, 3, 4]] * 40))
        self.made("room n corner low", least_room(CORNER, [[0, 1]]))
        self.made("room n full low", least_room(FULL, [[0, 1]]))
        self.made("room n full none", [])
        self.made("nilroom n corner", nil_room(CORNER))
        self.made("nilroom n line", [])
        self.made("sum n line low top", sum_room(LINE, [[0, 1]], [[1, 0]]))
        self.made("sum n line top none", told([[1, 0]]))
        self.made("meet n line low top", meet_room(LINE, [[0, 1]], [[1, 0]]))
        self.made("meet n line low low", told([[0, 1]]))
        self.made("noughts n line d", noughts(LINE, DOUBLE))
        self.made("images n line d", images(LINE, DOUBLE))

    def test_open_ones(self):
        desk = filled()
        desk.do_all("drop one", "drop none", "drop x", "drop y")
        desk.do_all("led other line s", "change c line other", "onto p line low", "partner q line low")
        self.same(is_change(LINE, desk["other"], desk["c"]), True)
        self.same(desk["c"], change(LINE, desk["other"]))
        self.same(is_onto(LINE, [[0, 1]], desk["p"]), True)
        self.same(is_partner(LINE, [[0, 1]], desk["q"]), True)
        self.refused(desk, UnknownName, {"value": "q"}, "trace q")

    def test_kinds_of_what_is_made(self):
        desk = filled()
        desk.do_all("drop one", "drop none", "drop x", "drop y")
        desk.do_all("nilroom n corner", "noughts m line d", "word t corner 0", "onto o line low")
        self.answers(desk, "out line n", "none", "out line m", "none", "trace t", "2", "trace o", "1")

    def test_entry(self):
        desk = filled()
        self.answers(desk, "entry s 1 0 -7/2", "-", "show s", "1,1 -7/2,1", "entry s 0 0 0", "-", "show s",
                     "0,1 -7/2,1", "entry one 0 0 1/3", "-", "show one", "1/3")
        self.same(desk["s"], told([[0, 1], [Ratio(-7, 2), 1]]))
        for at, place, wrong in [(2, 0, 2), (0, 2, 2), (3, 5, 3), (1, 99, 99), (99, 98, 99)]:
            self.refused(desk, InvalidPlace, {"value": wrong}, f"entry s {at} {place} 1")

    def test_put(self):
        desk = filled()
        self.answers(desk, "put full 1 s", "-", "show full", "0,1 0,0 ; 1,1 0,1", "put full 0 d", "-")
        self.same(desk["full"], House([DOUBLE, SLOPE]))
        # The only letter may be one of another size.
        self.answers(desk, "put line 0 one", "-", "show line", "3", "put line 0 d", "-")
        for at in (2, 3, 99):
            self.refused(desk, InvalidPlace, {"value": at}, f"put full {at} s")
        self.refused(desk, InvalidPlace, {"value": 2}, "put full 2 one")
        self.refused(desk, InvalidLetters, {"value": [told(DOUBLE), [[Ratio(3)]]]}, "put full 1 one")
        self.refused(desk, InvalidLetters, {"value": [[[Ratio(3)]], told(SLOPE)]}, "put full 0 one")

    def test_row(self):
        desk = filled()
        desk.do("drop one")
        desk.do("rows r 1,2 3,4 5,6")
        self.answers(desk, "row r 1 -1/2,0", "-", "show r", "1,2 -1/2,0 5,6", "row r 2 0,0", "-", "show r",
                     "1,2 -1/2,0 0,0")
        for at in (3, 99):
            self.refused(desk, InvalidPlace, {"value": at}, f"row r {at} 1,2")
        self.refused(desk, InvalidPlace, {"value": 3}, "row r 3 1,2,3")
        self.refused(desk, InvalidPlace, {"value": 0}, "row none 0 1,2")
        self.refused(desk, InvalidRow, {"value": told([1])}, "row r 0 1")
        self.refused(desk, InvalidRow, {"value": told([1, HALF, 3])}, "row r 0 1,1/2,3")

    def test_drop(self):
        desk = filled()
        for name in ["x", "full", "low"]:
            self.answers(desk, f"drop {name}", "-")
            self.assertNotIn(name, desk.names)
            self.refused(desk, UnknownName, {"value": name}, f"drop {name}")
        self.answers(desk, "rows x 1,2", "-", "names", "corner d line none one s top w x y")
        self.refused(desk, UnknownName, {"value": "x"}, "trace x")


class AnswersTest(DeskTest):
    def test_example(self):
        desk = Desk()
        self.same(desk.do_all("table x 0,1 0,0", "table y 0,0 1,0", "house h x y", "claim k all h", "dimension h",
                              "wordsum h 0,1", "base h", "rows r 1,0", "claim n kept h r"),
                  ["-", "-", "-", "k true", "4", "1", "- 0 1 0,1", "-", "n false"])
        self.same(desk.do_all("put h 1 x", "dimension h", "parted h", "undo", "states", "show h", "out h r", "names"),
                  ["k false", "2", "no", "put h 1 x", "k true, n false", "0,1 0,0 ; 0,0 1,0", "0 0", "h r x y"])

    def test_a_desk_is_called(self):
        desk = Desk()
        self.same(desk("table x 1/2"), "-")
        self.same(desk(command="show x"), "1/2")
        self.same(desk.do(command="trace x"), "1/2")

    def test_show(self):
        desk = filled()
        self.answers(desk, "show x", "0,1 0,0", "show one", "3", "show low", "0,1", "show none", "none", "show line",
                     "1,0 0,2", "show corner", "1,1 0,1 ; 1,0 0,2", "entry one 0 0 -5/3", "-", "show one", "-5/3")
        desk.do_all("drop x", "rows r 1/2,-3 0,7")
        self.answers(desk, "show r", "1/2,-3 0,7")

    def test_tables(self):
        desk = filled()
        self.answers(desk, "trace d", "3", "determinant d", "2", "line d", "2 -3 1", "trace x", "0",
                     "determinant x", "0", "determinant w", "-1", "line w", "-1 0 1", "line one", "-3 1",
                     "entry d 0 1 5/2", "-", "entry d 1 1 1/3", "-", "trace d", "4/3", "determinant d", "1/3",
                     "line d", "1/3 -4/3 1")
        self.same(desk.do("line s"), " ".join(str(number) for number in line_numbers(SLOPE)))
        self.same((desk.do("trace s"), desk.do("determinant s")), (str(sum_on(SLOPE)), str(determinant(SLOPE))))

    def test_houses(self):
        desk = filled()
        self.answers(desk, "wordsum corner 0,1", "3", "wordsum corner -", "2", "wordsum full 0,1,0,1", "1",
                     "wordsum line " + ",".join("0" * 16), "65537",
                     "base corner", "- 0 1", "base full", "- 0 1 0,1", "base line", "- 0",
                     "dimension corner", "3", "dimension full", "4", "dimension line", "2",
                     "every full", "yes", "every corner", "no",
                     "parted full", "yes", "parted corner", "no", "parted line", "yes",
                     "rank full", "4", "rank corner", "2", "rank line", "2",
                     "counts full", "4 1 1", "counts line", "2 2 2",
                     "five full", "0 0 0 1 0", "five corner", "2 3 2 3 5",
                     "out full low", "0 1", "out full top", "0 0", "out corner low", "none", "out full none", "none",
                     "apart full corner", "0", "apart corner corner", "none", "apart corner full", "0")
        for house, name in [(FULL, "full"), (CORNER, "corner")]:
            self.same(desk.do("rank " + name), str(sums_rank(house)))
            self.same(desk.do("five " + name), " ".join(str(number) for number in five(house)))
        self.same(desk.do("counts full"), " ".join(str(number) for number in counts(FULL)))

    def test_words_that_tell_houses_apart(self):
        desk = filled()
        desk.do_all("drop x", "drop none", "house a one", "put line 0 s", "house b s")
        self.answers(desk, "apart line a", "-", "apart a line", "-", "apart line b", "none", "put full 0 s", "-",
                     "put full 1 s", "-", "apart full corner", "1", "put corner 1 y", "-", "entry y 0 0 2", "-",
                     "put corner 1 y", "-", "apart full corner", "0,1")

    def test_halves_in_answers(self):
        desk = Desk()
        desk.do_all("table a 1/2,0 0,1/3", "table b 1/2,1 0,0", "house h a b")
        self.answers(desk, "wordsum h 0", "5/6", "wordsum h 1,0", "1/4", "five h", "5/6 1/2 13/36 1/4 1/4")

    def test_same(self):
        desk = filled()
        self.answers(desk, "same x x", "yes", "same x y", "no", "same full full", "yes", "same full corner", "no",
                     "same low low", "yes", "same low top", "no", "same none low", "no", "same full line", "no",
                     "entry x 0 1 1", "-", "same x one", "no", "drop one", "-", "about x2 y", "-", "same x2 x", "yes")
        self.refused(desk, UnknownName, {"value": "full"}, "same x full")
        self.refused(desk, UnknownName, {"value": "low"}, "same x low")
        self.refused(desk, UnknownName, {"value": "x"}, "same low x")
        self.refused(desk, UnknownName, {"value": "gone"}, "same gone x")
        self.refused(desk, UnknownName, {"value": "gone"}, "same gone gone2")
        self.refused(desk, UnknownName, {"value": "gone"}, "same x gone")

    def test_they_change_nothing(self):
        desk = filled()
        desk.do_all("drop x", "undo", "claim k all full")
        desk.do("undo")
        before = self.all_of(desk)
        for command in ["show x", "trace x", "determinant x", "line x", "wordsum full 0", "base full", "dimension full",
                        "every full", "parted full", "rank full", "counts full", "five full", "out full low",
                        "apart full corner", "same x y", "names", "states"]:
            desk.do(command)
        self.assertEqual(self.all_of(desk), before)


class ErrorsTest(DeskTest):
    def test_no_commands(self):
        desk = filled()
        for value in ["", " names", "names ", "name", "drop", "drop x y", "table x 01", "word n full 0,", "undo 1",
                      "claim k some full", "states\n"] + no_lists() + [[], ["names"], Odd()]:
            self.refused(desk, InvalidCommand, {"value": value}, value)

    def test_names_that_are_taken(self):
        desk = filled()
        others = ("entry", "put", "row", "drop", "claim", "forget")
        for deed in [one for one in DEEDS if one.split(" ")[0] not in others]:
            things = deed.split(" ")
            for name in ["x", "full", "low"]:
                self.refused(desk, NameTaken, {"name": name}, " ".join([things[0], name, *things[2:]]))

    def test_labels_that_are_taken(self):
        desk = filled()
        desk.do("claim k all full")
        for command in ["claim k all full", "claim k all nothing", "claim k made full one", "claim k kept full x"]:
            self.refused(desk, LabelTaken, {"label": "k"}, command)
        # A label may be a name, too.
        self.answers(desk, "claim full less full", "full false")

    def test_unknown_names(self):
        desk = filled()
        wanted = {"a": "s", "b": "w", "h": "full", "i": "corner", "r": "low", "s": "top", "t": "none"}
        for command in DEEDS + OTHERS:
            things = command.split(" ")
            start = 1
            if command in DEEDS and things[0] not in ("entry", "put", "row", "drop", "claim", "forget"):
                start, things[1] = 2, "n"
            things = things[:1] + [wanted.get(one, one) for one in things[1:]]
            known = ("s", "w", "full", "corner", "low", "top", "none")
            places = [at for at in range(start, len(things)) if things[at] in known]
            for at in places:
                for name in ["zz", self.other_kind(things[0], things, at)]:
                    if name:
                        bent = things[:at] + [name] + things[at + 1:]
                        self.refused(desk, UnknownName, {"value": name}, " ".join(bent))
                        # The first one counts.
                        all_bent = bent[:at + 1] + ["yy" if later in places else bent[later]
                                                    for later in range(at + 1, len(bent))]
                        self.refused(desk, UnknownName, {"value": name}, " ".join(all_bent))

    @staticmethod
    def other_kind(word, things, at):
        """A name of a thing of another kind than is wanted there; none where any is."""
        if word in ("show", "drop", "same"):
            return None
        return "line" if things[at] in ("s", "w", "low", "top", "none") else "d"

    def test_unknown_labels(self):
        desk = filled()
        desk.do("claim k all full")
        for command in ["forget", "state", "claimed"]:
            self.refused(desk, UnknownLabel, {"value": "full"}, f"{command} full")
            self.refused(desk, UnknownLabel, {"value": "kk"}, f"{command} kk")
        desk.do("forget k")
        self.refused(desk, UnknownLabel, {"value": "k"}, "forget k")

    def test_nothing_to_take_back(self):
        desk = Desk()
        self.refused(desk, NothingToUndo, {}, "undo")
        self.refused(desk, NothingToRedo, {}, "redo")

    def test_of_what_makes_tables(self):
        desk = filled()
        desk.do_all("drop none", "rows longer 1,0,0")
        for command, value in [("table n", []), ("table n 1,2", [[1, 2]]), ("table n 1 2", [[1], [2]]),
                               ("table n 1,2 3", [[1, 2], [3]]), ("table n" + " 1,2,3,4" * 5, [[1, 2, 3, 4]] * 5),
                               ("table n 1/2,0 0,1 1,1", [[HALF, 0], [0, 1], [1, 1]])]:
            self.refused(desk, InvalidTable, {"value": told(value)}, command)
        for size in (0, 5, 99):
            self.refused(desk, InvalidSize, {"value": size}, f"idle n {size}")
        self.refused(desk, UnlikeSizes, {}, "times n x one")
        self.refused(desk, UnlikeSizes, {}, "mixed n one x 1/2")
        self.refused(desk, NotUndone, {}, "undone n x")
        self.refused(desk, InvalidWord, {"value": [2]}, "word n full 2")
        self.refused(desk, InvalidWord, {"value": [0, 99]}, "wordsum full 0,99")
        self.refused(desk, InvalidWord, {"value": [1]}, "word n line 1")
        self.refused(desk, UnlikeLetters, {}, "change n full line")
        self.refused(desk, NotParted, {}, "change n corner corner")
        self.refused(desk, NotParted, {}, "change n full corner")
        desk.do_all("drop one", "house swap w", "drop longer")
        self.refused(desk, NoneThere, {}, "change n line swap")
        self.refused(desk, InvalidRoom, {"value": told([[1, 0]])}, "onto n full top")
        self.refused(desk, NoneThere, {}, "onto n corner low")

    def test_more_than_six_leads(self):
        desk = Desk()
        desk.do_all("idle i 3", "house h i", "house g i")
        self.refused(desk, TooMany, {"what": "leads", "limit": 6}, "change n h g")
        self.answers(desk, "claim k alike h g", "k true", "apart h g", "none")

    def test_of_what_makes_houses(self):
        desk = filled()
        desk.do_all("drop none", "idle three 3")
        self.refused(desk, InvalidLetters, {"value": [told(X), [[Ratio(3)]]]}, "house n x one")
        self.refused(desk, InvalidLetters, {"value": [[[Ratio(3)]], told(X), told(X)]}, "house n one x x")
        self.refused(desk, UnlikeLetters, {}, "side n full line")
        desk.do_all("drop x", "side big full corner")
        self.refused(desk, TooMany, {"what": "size", "limit": 4}, "side n big full")
        self.refused(desk, InvalidTable, {"value": idle(3)}, "led n full three")
        self.refused(desk, NotUndone, {}, "led n full y")
        self.refused(desk, InvalidRoom, {"value": told([[0, 1]])}, "cut n full low")
        self.refused(desk, InvalidRoom, {"value": told([[1, 0]])}, "rest n corner top")
        desk.do_all("drop one", "rows none", "drop y", "rows whole 1,0 0,1")
        self.refused(desk, NoughtRoom, {}, "cut n full none")
        self.refused(desk, WholeRoom, {}, "rest n full whole")

    def test_of_what_makes_rows(self):
        desk = filled()
        desk.do_all("drop one", "rows long 1,0,0", "drop x", "idle three 3", "drop y", "rows out 2,0")
        long = [[1, 2, 3], [1, 2, 3], [HALF]]
        for command, value in [("rows n 1 1,2", [[1], [1, 2]]), ("rows n 1,2,3 1,2,3 1/2", long)]:
            self.refused(desk, InvalidRows, {"value": told(value)}, command)
        self.refused(desk, InvalidRows, {"value": told([[1, 0, 0]])}, "room n full long")
        self.refused(desk, InvalidRows, {"value": told([[1, 0, 0]])}, "out full long")
        for command in ["sum n line out low", "sum n line low out", "meet n line out low", "meet n line low out",
                        "partner n line out"]:
            self.refused(desk, InvalidRoom, {"value": told([[2, 0]])}, command)
        self.refused(desk, InvalidRoom, {"value": told([[1, 0, 0]])}, "sum n line long out")
        self.refused(desk, NoneThere, {}, "partner n corner low")
        for word in ["noughts", "images"]:
            self.refused(desk, InvalidTable, {"value": idle(3)}, f"{word} n full three")
            self.refused(desk, NotCommuting, {}, f"{word} n full s")
        self.assertFalse(is_commuting(FULL, SLOPE))

    def test_of_questions(self):
        desk = filled()
        self.refused(desk, NotParted, {}, "counts corner")
        self.refused(desk, NotTwo, {}, "five line")
        self.refused(desk, UnlikeLetters, {}, "apart full line")

    def test_claims_that_are_none(self):
        desk = filled()
        desk.do_all("drop none", "rows long 1,0,0")
        for word in ("made", "notmade"):
            self.refused(desk, InvalidClaim, {"value": (word, FULL, [[Ratio(3)]])}, f"claim k {word} full one")
        for word in ("alike", "unlike"):
            self.refused(desk, InvalidClaim, {"value": (word, FULL, LINE)}, f"claim k {word} full line")
            # An error stops it: the house does not part.
            self.refused(desk, InvalidClaim, {"value": (word, CORNER, FULL)}, f"claim k {word} corner full")
            self.refused(desk, InvalidClaim, {"value": (word, FULL, CORNER)}, f"claim k {word} full corner")
        for word in ("kept", "ledout"):
            self.refused(desk, InvalidClaim, {"value": (word, FULL, told([[1, 0, 0]]))}, f"claim k {word} full long")
        self.same(desk.labels, [])

    def test_which_comes_first(self):
        desk = filled()
        desk.do_all("claim k all full", "undo")
        self.refused(desk, InvalidCommand, {"value": "table x 01"}, "table x 01")
        self.refused(desk, NameTaken, {"name": "x"}, "times x zz yy")
        self.refused(desk, NameTaken, {"name": "x"}, "table x 1,2")
        self.refused(desk, UnknownName, {"value": "zz"}, "times n zz one")
        self.refused(desk, UnknownName, {"value": "zz"}, "word n zz 9")
        self.refused(desk, UnknownName, {"value": "zz"}, "put full 9 zz")
        # With twelve names, what makes the thing fails first.
        self.refused(desk, InvalidTable, {"value": []}, "table n")
        self.refused(desk, InvalidClaim, {"value": ("made", FULL, [[Ratio(3)]])}, "claim k made full one")
        self.refused(desk, TooMany, {"what": "names", "limit": 12}, "table n 1")

    def test_twelve_names(self):
        desk = filled()
        self.assertEqual(len(desk.names), 12)
        for command in ["table n 1", "house n x", "rows n", "nilroom n corner"]:
            self.refused(desk, TooMany, {"what": "names", "limit": 12}, command)
        self.answers(desk, "entry x 0 0 1", "-", "drop x", "-", "rows n", "-")
        self.refused(desk, TooMany, {"what": "names", "limit": 12}, "rows m")
        self.answers(desk, "undo", "rows n", "house n y", "-")

    def test_twelve_labels(self):
        desk = filled()
        for at in range(12):
            self.answers(desk, f"claim k{at} all full", f"k{at} true")
        self.refused(desk, TooMany, {"what": "labels", "limit": 12}, "claim n all full")
        self.refused(desk, InvalidClaim, {"value": ("made", FULL, [[Ratio(3)]])}, "claim n made full one")
        self.refused(desk, LabelTaken, {"label": "k3"}, "claim k3 all full")
        # Of names there are twelve, too: names come first.
        self.refused(desk, TooMany, {"what": "names", "limit": 12}, "table n 1")
        self.answers(desk, "forget k3", "-", "claim n less full", "n false")

    def test_three_hundred_deeds(self):
        desk = filled()
        for at in range(288):
            self.assertEqual(desk.do(f"entry x 0 0 {at}"), "-")
        self.same(len(desk), 300)
        for command in ["entry x 0 0 5", "drop x", "claim k all full", "put full 0 x"]:
            self.refused(desk, TooMany, {"what": "deeds", "limit": 300}, command)
        self.refused(desk, InvalidPlace, {"value": 2}, "entry x 0 2 5")
        self.refused(desk, TooMany, {"what": "names", "limit": 12}, "rows n")
        self.answers(desk, "trace x", "287", "undo", "entry x 0 0 287", "redo", "entry x 0 0 287", "undo",
                     "entry x 0 0 287", "drop x", "-")
        self.refused(desk, TooMany, {"what": "deeds", "limit": 300}, "table n 1")
        self.same(len(desk), 300)


if __name__ == "__main__":
    unittest.main()
