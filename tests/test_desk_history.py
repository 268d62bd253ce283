"""[96] States, [97] how deeds change them; undo and redo, several commands, copies, lines, trials."""
import random
import unittest

from tests.helper import Odd, no_lists, told
from tests.test_desk import CORNER, FULL, LINE, SLOPE, DeskTest, X, filled
from tracewords.claims import contrary, is_true
from tracewords.desk import Desk, Trial, tried
from tracewords.errors import (CommandFailed, InvalidCommand, InvalidLines, InvalidPlace, LabelTaken, LimitError,
                               MissingError, NameTaken, NotParted, NothingToRedo, NothingToUndo, StateError, TableError,
                               TooMany, UnknownLabel, UnknownName)
from tracewords.houses import House
from tracewords.ratios import Ratio


def claimed():
    """A filled desk with labels of each kind of claim."""
    desk = filled()
    desk.do_all("drop one", "drop none", "drop top", "claim a all full", "claim b less corner", "claim c made corner s",
                "claim d notmade corner y", "claim e parts line", "claim f nil corner", "claim g alike line line",
                "claim i unlike line line", "claim k kept corner low", "claim m ledout corner low")
    return desk


class StatesTest(DeskTest):
    def test_each_word(self):
        desk = claimed()
        self.answers(desk, "states", "a true, b true, c true, d true, e true, f true, g true, i false, k true, m false",
                     "state a", "true", "state m", "false", "claimed a", "all full", "claimed c", "made corner s",
                     "claimed m", "ledout corner low", "claimed i", "unlike line line")
        for label in desk.labels:
            claim = desk.claim_of(label)
            self.same(desk.do("state " + label), "true" if is_true(claim) else "false")
            self.same(desk.claim_of(label=label), claim)

    def test_claims_with_what_is_kept_now(self):
        desk = claimed()
        self.same(desk.claim_of("a"), ("all", FULL))
        self.same(desk.claim_of("c"), ("made", CORNER, told(SLOPE)))
        self.same(desk.claim_of("g"), ("alike", LINE, LINE))
        self.same(desk.claim_of("k"), ("kept", CORNER, told([[0, 1]])))
        desk.do_all("entry s 0 1 5", "row low 0 1/2,1", "put full 0 s")
        self.same(desk.claim_of("c"), ("made", CORNER, told([[1, 5], [0, 1]])))
        self.same(desk.claim_of("k"), ("kept", CORNER, told([[Ratio(1, 2), 1]])))
        self.same(desk.claim_of("a"), ("all", House([[[1, 5], [0, 1]], [[0, 0], [1, 0]]])))

    def test_unknown_labels(self):
        desk = claimed()
        desk.do("forget a")
        for value in ["a", "full", "x", "", "A", "aa"] + no_lists() + [[], ["b"], ("b",), Odd()]:
            for call in [desk.claim_of, desk.fits]:
                self.fails(UnknownLabel, {"value": value}, call, value)
                self.fails(UnknownLabel, {"value": value}, call, label=value)
            self.fails_both(UnknownLabel, {"value": value}, desk.attach, label=value, paper=None)

    def test_changes_are_told_sorted(self):
        desk = Desk()
        self.answers(desk, "table x 0,1 0,0", "-", "table y 0,0 1,0", "-", "house h x y", "-", "claim z all h",
                     "z true", "claim b less h", "b false", "claim a parts h", "a true", "claim m made h x", "m true",
                     "put h 1 x", "a false, b true, z false", "put h 1 x", "-", "put h 1 y", "a true, b false, z true",
                     "entry x 0 0 5", "-", "drop h", "a gone, b gone, m gone, z gone", "drop y", "-",
                     "house h x", "a true, b true, m true, z false", "states", "a true, b true, m true, z false")

    def test_noted_counts_as_changed_and_forgotten_not(self):
        desk = filled()
        self.answers(desk, "claim k all full", "k true", "claim n less full", "n false", "forget k", "-", "states",
                     "n false", "forget n", "-", "states", "-", "claim k all full", "k true")

    def test_gone_and_back(self):
        desk = filled()
        desk.do_all("drop one", "claim k kept corner low")
        self.answers(desk, "drop low", "k gone", "state k", "gone", "claimed k", "kept corner low",
                     # A thing of another kind, and rows of another length.
                     "table low 0,1 0,0", "-", "state k", "gone", "drop low", "-", "rows low 1,2,3", "-", "drop low",
                     "-", "rows low 1,0", "k false", "drop corner", "k gone", "house corner d", "k true",
                     "drop low", "k gone", "rows low", "k true")
        self.same(desk.claim_of("k"), ("kept", LINE, []))
        desk.do("drop low")
        self.same(desk.claim_of("k"), None)
        self.same(desk.labels, ["k"])

    def test_gone_as_it_is_no_claim(self):
        desk = filled()
        desk.do_all("drop none", "claim k made line s", "claim n alike line line", "claim m unlike full full")
        self.answers(desk, "put line 0 one", "k gone", "put line 0 d", "k false", "drop s", "k gone", "table s 5", "-",
                     "put line 0 s", "k true", "states", "k true, m false, n true")
        desk = filled()
        desk.do_all("drop none", "house g d", "claim k alike line g", "drop g")
        self.answers(desk, "house g x y", "-", "state k", "gone", "drop g", "-", "house g w", "k false")

    def test_gone_as_an_error_stops_it(self):
        desk = filled()
        desk.do_all("drop none", "house g d", "claim k alike line g", "claim n unlike g line")
        self.answers(desk, "states", "k true, n false", "put g 0 s", "k gone, n gone", "put g 0 w", "k false, n true",
                     "put line 0 x", "k gone, n gone", "state k", "gone", "put line 0 w", "k true, n false")
        desk.do("put line 0 s")
        self.same((desk.claim_of("k"), desk.claim_of("n")), (None, None))

    def test_states_hang_on_both_names(self):
        desk = filled()
        desk.do_all("drop none", "drop top", "rows top 1,0", "claim k kept line top", "claim n made corner y")
        self.answers(desk, "row top 0 1,1", "k false", "put corner 1 x", "-", "put corner 0 y", "n true",
                     "entry y 0 0 1", "-", "entry y 1 1 7", "-", "put line 0 w", "k true")

    def test_other_labels_are_not_told(self):
        desk = claimed()
        self.answers(desk, "put full 0 y", "a false", "row low 0 1,0", "k false, m true",
                     "drop x", "-", "drop corner", "b gone, c gone, d gone, f gone, k gone, m gone")


class UndoTest(DeskTest):
    def test_undo_and_redo(self):
        desk = Desk()
        self.answers(desk, "table x 1", "-", "table y 2", "-", "undo", "table y 2", "names", "x", "undo", "table x 1",
                     "names", "-", "redo", "table x 1", "names", "x", "redo", "table y 2", "names", "x y")
        self.refused(desk, NothingToRedo, {}, "redo")
        self.answers(desk, "undo", "table y 2", "undo", "table x 1")
        self.refused(desk, NothingToUndo, {}, "undo")
        self.answers(desk, "redo", "table x 1", "rows z 1", "-")
        self.refused(desk, NothingToRedo, {}, "redo")
        self.same((desk.lines(), len(desk)), (["table x 1", "rows z 1"], 2))

    def test_what_is_no_deed_leaves_what_can_be_done_again(self):
        desk = filled()
        desk.do_all("drop one", "undo")
        for command in ["names", "states", "show x", "rank full"]:
            desk.do(command)
        for command in ["drop zz", "table n 01", "table n 1", "redo x"]:
            with self.assertRaises((TableError, MissingError, LimitError)):
                desk.do(command)
        self.answers(desk, "redo", "drop one")

    def test_each_deed(self):
        desk = claimed()
        shelves = []
        copied = Desk()
        for line in desk.lines():
            shelves.append(self.now(copied))
            copied.do(line)
        for line, wanted in list(zip(desk.lines(), shelves))[::-1]:
            self.answers(desk, "undo", line)
            self.assertEqual(self.now(desk), wanted)
        for line, wanted in list(zip(copied.lines(), shelves[1:])):
            self.answers(desk, "redo", line)
            self.assertEqual(self.now(desk), wanted)

    def now(self, desk):
        """What a desk keeps now."""
        return [desk.names, [desk[name] for name in desk.names], desk.labels, desk.do("states")]

    def test_states_come_back(self):
        desk = claimed()
        wanted = desk.do("states")
        self.answers(desk, "put full 0 y", "a false", "undo", "put full 0 y", "states", wanted, "state a", "true",
                     "redo", "put full 0 y", "state a", "false", "undo", "put full 0 y", "put full 1 x", "a false")

    def test_open_ones_are_the_same_again(self):
        desk = filled()
        desk.do_all("drop one", "drop none", "led other line s", "change c line other")
        kept = desk["c"]
        desk.do_all("undo", "redo")
        self.same(desk["c"], kept)
        self.same(Desk.again(desk.lines())["c"], kept)

    def test_a_label_that_was_forgotten(self):
        desk = claimed()
        self.answers(desk, "forget a", "-", "put full 0 y", "-", "undo", "put full 0 y", "undo", "forget a", "state a",
                     "true")

    def test_any_commands(self):
        source = random.Random(961)
        for seed in range(12):
            desk, plain, ahead = Desk(), [], []
            for _ in range(60):
                command = self.some_command(source, desk)
                try:
                    found = desk.do(command)
                except (TableError, MissingError, StateError, LimitError):
                    continue
                if command == "undo":
                    ahead.append(plain.pop())
                    self.same(found, ahead[-1])
                elif command == "redo":
                    plain.append(ahead.pop())
                    self.same(found, plain[-1])
                else:
                    plain.append(command)
                    ahead = []
            self.same((desk.lines(), len(desk)), (plain, len(plain)))
            self.assertEqual(self.all_of(Desk.again(plain))[:-1], self.all_of(desk)[:-1])
            self.same(self.all_of(desk)[-1], ahead[::-1])
            for label in desk.labels:
                claim = desk.claim_of(label)
                if claim is not None:
                    self.same(desk.do("state " + label), "true" if is_true(claim) else "false")

    def some_command(self, source, desk):
        """A command that may do something."""
        name, other, label = [source.choice(one) for one in ("abcdef", "abcdef", "klm")]
        return source.choice([
            f"table {name} {source.randint(-1, 1)},1 0,{source.randint(0, 2)}", f"rows {name} 0,1",
            f"house {name} {other}",
            f"house {name} {other} {other}", f"word {name} {other} 0", f"room {name} {other} {name}", f"drop {name}",
            f"entry {name} 0 {source.randint(0, 1)} {source.randint(-1, 2)}", f"put {name} 0 {other}",
            f"row {name} 0 {source.randint(0, 1)},{source.randint(0, 1)}", f"claim {label} all {name}",
            f"claim {label} made {name} {other}", f"claim {label} kept {name} {other}", f"forget {label}",
            f"claim {label} alike {name} {other}", f"times {name} {other} {other}", "undo", "undo", "redo"])


class SeveralTest(DeskTest):
    def test_do_all(self):
        desk = Desk()
        self.same(desk.do_all(), [])
        self.same(desk.do_all("table x 1/2"), ["-"])
        self.same(desk.do_all("show x", "undo", "redo", "trace x", "names"),
                  ["1/2", "table x 1/2", "table x 1/2", "1/2", "x"])

    def test_one_fails(self):
        desk = claimed()
        for commands, position, error in [
                (["drop x", "drop x"], 1, UnknownName), (["drop zz", "drop x"], 0, UnknownName),
                (["drop x", "undo", "redo", "redo"], 3, NothingToRedo),
                (["table n 1", "names", "table n 1"], 2, NameTaken),
                (["names", "x"], 1, InvalidCommand), ([5], 0, InvalidCommand),
                (["names", None, "drop x"], 1, InvalidCommand),
                (["drop x", "forget zz"], 1, UnknownLabel), (["claim z all full", "claim z all full"], 1, LabelTaken),
                (["drop x", "entry y 2 0 1"], 1, InvalidPlace), (["drop x", "counts corner"], 1, NotParted),
                (["rows t1", "rows t2", "rows t3", "rows t4"], 3, TooMany)]:
            for call in [desk.do_all, desk.attempt]:
                before = self.all_of(desk)
                with self.assertRaises(CommandFailed) as caught:
                    call(*commands)
                self.same(caught.exception.position, position)
                self.assertIs(type(caught.exception.__cause__), error)
                self.assertEqual(self.all_of(desk), before)

    def test_the_cause_holds_what_it_must(self):
        desk = filled()
        with self.assertRaises(CommandFailed) as caught:
            desk.do_all("names", "trace zz")
        self.same(caught.exception.__cause__.value, "zz")

    def test_what_was_taken_back_stays_so_if_one_fails(self):
        desk = filled()
        desk.do_all("drop x", "drop y", "undo", "undo")
        with self.assertRaises(CommandFailed):
            desk.do_all("redo", "drop w", "trace zz")
        self.same(desk.do_all("redo", "redo"), ["drop x", "drop y"])

    def test_attempt(self):
        desk = claimed()
        desk.do_all("drop x", "undo")
        before = self.all_of(desk)
        self.same(desk.attempt(), [])
        self.same(desk.attempt("put full 0 y", "states", "undo", "undo", "rows n 1", "names"),
                  ["a false", "a false, b true, c true, d true, e true, f true, g true, i false, k true, m false",
                   "put full 0 y", "claim m ledout corner low", "-", "corner d full line low n s w x y"])
        self.same(desk.attempt("redo", "undo"), ["drop x", "drop x"])
        self.assertEqual(self.all_of(desk), before)

    def test_too_many_deeds(self):
        desk = filled()
        desk.do_all(*[f"entry x 0 0 {at}" for at in range(287)])
        with self.assertRaises(CommandFailed) as caught:
            desk.do_all("drop x", "drop y")
        self.same((caught.exception.position, len(desk)), (1, 299))
        self.assertIs(type(caught.exception.__cause__), TooMany)
        self.same(desk.attempt("drop x"), ["-"])
        self.same(desk.do_all("drop x"), ["-"])


class CopyTest(DeskTest):
    def test_the_same_things(self):
        desk = claimed()
        desk.attach("a", [[], [0], [1], [0, 1]])
        desk.do_all("put full 0 y", "undo", "drop x", "undo")
        other = desk.copy()
        self.assertEqual(self.all_of(other), self.all_of(desk))
        self.assertIs(type(other), Desk)
        self.same(other.fits("a"), True)
        self.answers(other, "redo", "drop x")

    def test_each_goes_on_by_itself(self):
        desk = claimed()
        other = desk.copy()
        before = self.all_of(desk)
        other.do_all("drop x", "put full 0 y", "forget k")
        other.attach("c", [([0], 1)])
        self.assertEqual(self.all_of(desk), before)
        kept = self.all_of(other)
        desk.do_all("undo", "undo", "rows n 1", "entry d 0 0 7")
        desk.attach("a", [[], [0], [1], [0, 1]])
        self.assertEqual(self.all_of(other), kept)
        self.same((desk.fits("a"), other.fits("a")), (True, False))


class AgainTest(DeskTest):
    def test_lines(self):
        desk = claimed()
        self.same(desk.lines()[:2], ["table x 0,1 0,0", "table y 0,0 1,0"])
        desk.do_all("names", "undo", "states")
        self.same(len(desk.lines()), len(desk))
        self.assertNotIn("names", desk.lines())
        self.assertNotIn("undo", desk.lines())
        for lines in [desk.lines(), tuple(desk.lines())]:
            for other in [Desk.again(lines), Desk.again(lines=lines)]:
                self.assertEqual(self.all_of(other)[:-1], self.all_of(desk)[:-1])
                self.refused(other, NothingToRedo, {}, "redo")

    def test_no_lines(self):
        for lines in [[], ()]:
            desk = Desk.again(lines)
            self.same((desk.names, len(desk)), ([], 0))
        self.same(desk.again(["table x 1"]).names, ["x"])

    def test_what_was_passed_stays(self):
        lines = ["table x 1", "rows r"]
        desk = Desk.again(lines)
        lines.append("rows s")
        desk.do("drop x")
        self.same((lines, len(desk)), (["table x 1", "rows r", "rows s"], 3))

    def test_no_list(self):
        for value in no_lists():
            self.fails_both(InvalidLines, {"position": None}, Desk.again, lines=value)

    def test_lines_that_are_no_deeds(self):
        good = ["table x 1", "drop x"]
        for value in ["undo", "names", "show x", "", "table", "table x 01", "drop x\n", None, True, 5, ["drop x"],
                      Odd()]:
            for position in range(3):
                lines = good[:position] + [value] + good[position:]
                self.fails_both(InvalidLines, {"position": position}, Desk.again, lines=lines)
                self.fails(InvalidLines, {"position": position}, Desk.again, tuple(lines) + ("names",))

    def test_lines_that_fail(self):
        self.fails_both(CommandFailed, {"position": 1}, Desk.again, lines=["table x 1", "drop y", "drop x"])
        self.fails_both(CommandFailed, {"position": 0}, Desk.again, lines=("drop x",))
        with self.assertRaises(CommandFailed) as caught:
            Desk.again(["table x 1", "table x 2"])
        self.assertIs(type(caught.exception.__cause__), NameTaken)
        # What is no deed is told ahead of what fails.
        self.fails_both(InvalidLines, {"position": 2}, Desk.again, lines=["drop x", "drop y", "names"])
        lines = ["table x 1"] + [f"entry x 0 0 {at}" for at in range(300)]
        self.fails_both(CommandFailed, {"position": 300}, Desk.again, lines=lines)
        self.same(len(Desk.again(lines[:300])), 300)


class TrialTest(DeskTest):
    def test_all_is_as_it_was(self):
        desk = claimed()
        desk.attach("a", [[], [0], [1], [0, 1]])
        desk.do_all("drop x", "undo")
        before = self.all_of(desk)
        with Trial(desk) as held:
            self.assertIs(held, desk)
            held.do_all("put full 0 y", "forget b", "claim b kept line low", "rows n 1")
            desk.attach("e", [[], [0]])
            self.same(desk.do("state a"), "false")
            self.same((desk.fits("a"), desk.fits("e")), (False, True))
        self.assertEqual(self.all_of(desk), before)
        self.same((desk.fits("a"), desk.fits("e")), (True, False))
        self.answers(desk, "redo", "drop x")

    def test_papers_that_were_replaced(self):
        desk = claimed()
        desk.attach("a", [[], [0], [1], [0, 1]])
        with Trial(desk=desk):
            desk.do("put full 0 y")
            desk.attach("a", [[1, 0, 0, 0], [0, 0, 1, 0], [0, 0, 0, 1]])
            self.same(desk.fits("a"), True)
        self.same(desk.fits("a"), True)

    def test_an_error_leaves_the_block(self):
        desk = claimed()
        before = self.all_of(desk)
        error = KeyError("of another kind")
        with self.assertRaises(KeyError) as caught:
            with Trial(desk) as held:
                held.do("drop x")
                raise error
        self.assertIs(caught.exception, error)
        self.assertEqual(self.all_of(desk), before)
        with self.assertRaises(UnknownName):
            with Trial(desk) as held:
                held.do_all("drop x", "drop full")
                held.do("trace x")
        self.assertEqual(self.all_of(desk), before)

    def test_one_trial_for_several_blocks(self):
        desk = filled()
        trial = Trial(desk)
        for name in ["x", "y"]:
            with trial as held:
                held.do(f"drop {name}")
                self.assertNotIn(name, desk)
            self.assertIn(name, desk)
            desk.do("entry x 0 0 5")
        self.same(desk.do("trace x"), "5")
        self.same(len(desk), 14)

    def test_blocks_within_blocks(self):
        desk = filled()
        with Trial(desk):
            desk.do("drop x")
            with Trial(desk):
                desk.do("drop y")
                self.same(desk.attempt("drop w", "names"), ["-", "corner d full line low none one s top"])
            self.same(desk.do("names"), "corner d full line low none one s top w y")
        self.same(desk["x"], told(X))

    def test_tried(self):
        desk = claimed()
        before = self.all_of(desk)
        self.same(tried(desk, lambda held: held.do_all("drop x", "names")), ["-", "corner d full line low s w y"])
        self.same(tried(desk=desk, action=lambda held: held is desk), True)
        self.same(tried(desk, len), len(desk))
        self.same(tried(desk, lambda held: held.do("put full 0 y")), "a false")
        self.assertEqual(self.all_of(desk), before)
        with self.assertRaises(UnknownName):
            tried(desk, lambda held: [held.do("drop x"), held["x"]])
        self.assertEqual(self.all_of(desk), before)
        self.same(contrary(desk.claim_of("a")), ("less", FULL))


if __name__ == "__main__":
    unittest.main()
