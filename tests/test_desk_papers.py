"""[95] Papers that a desk keeps with labels: attach and fits."""
import unittest

from tests.helper import never_valid, told, tupled
from tests.test_desk import DeskTest, filled
from tests.test_desk_history import claimed
from tracewords.claims import contrary, is_paper_of, paper_of
from tracewords.desk import Desk
from tracewords.errors import InvalidPaper, UnknownLabel

ALL = [[], [0], [1], [0, 1]]
# The closed lot of corner, and of full once its first letter is y.
UPPER, LOWER = [[1, 0, 0, 0], [0, 1, 0, 0], [0, 0, 0, 1]], [[1, 0, 0, 0], [0, 0, 1, 0], [0, 0, 0, 1]]


class AttachTest(DeskTest):
    def test_papers_of_the_claim_and_of_its_contrary(self):
        desk = claimed()
        for label in desk.labels:
            self.same(desk.fits(label), False)
            claim = desk.claim_of(label)
            for one in (claim, contrary(claim)):
                paper = paper_of(one)
                if paper is not None:
                    self.same(desk.attach(label, paper), None)
                    self.same(desk.fits(label), True)
                    self.same(desk.fits(label=label), True)
                    self.same(desk.attach(paper=tupled(paper), label=label), None)
                    self.same(desk.fits(label), True)
        self.same([label for label in desk.labels if not desk.fits(label)], ["k", "m"])
        desk.do("row low 0 1,0")
        for label in ("k", "m"):
            desk.attach(label, (0, 0))
            self.same(desk.fits(label), True)

    def test_no_papers(self):
        desk = claimed()
        for label in desk.labels:
            for paper in [5, None, True, [[5]], [["a"]], (9, 9), [9], [[], [9]], *never_valid()]:
                before = self.all_of(desk)
                self.fails_both(InvalidPaper, {"value": paper}, desk.attach, label=label, paper=paper)
                self.assertEqual(self.all_of(desk), before)
        for label, paper in [("a", ALL[:3]), ("a", UPPER), ("b", ALL), ("c", []), ("d", [([], 1)]), ("e", [[]]),
                             ("f", [[], [0], [1]]), ("g", [[0, 1], [1, 0]]), ("g", []), ("k", (0, 0)), ("m", (0, 0))]:
            self.fails_both(InvalidPaper, {"value": paper}, desk.attach, label=label, paper=paper)

    def test_a_paper_that_is_none_leaves_the_one_that_is_kept(self):
        desk = claimed()
        desk.attach("a", ALL)
        self.fails(InvalidPaper, {"value": ALL[:3]}, desk.attach, "a", ALL[:3])
        self.same(desk.fits("a"), True)

    def test_unknown_labels_come_first(self):
        desk = claimed()
        self.fails(UnknownLabel, {"value": "zz"}, desk.attach, "zz", 5)

    def test_while_the_state_is_gone(self):
        desk = claimed()
        desk.attach("a", ALL)
        desk.do("drop full")
        self.fails_both(InvalidPaper, {"value": ALL}, desk.attach, label="a", paper=ALL)
        self.same(desk.fits("a"), False)
        desk.do("house full x y")
        self.same(desk.fits("a"), True)
        # A house that does not part: a change would be let, but the state is gone.
        desk.do("put line 0 s")
        change = [[1, 0], [0, 1]]
        self.same(is_paper_of(("alike", desk["line"], desk["line"]), change), True)
        self.fails_both(InvalidPaper, {"value": change}, desk.attach, label="g", paper=change)

    def test_papers_are_copied(self):
        desk = claimed()
        paper = [[], [0], [1], [0, 1]]
        desk.attach("a", paper)
        paper[3][0] = 1
        paper.pop()
        self.same(desk.fits("a"), True)
        desk.attach("c", [([0], 1)])
        self.same(desk.fits("c"), True)

    def test_it_is_no_deed(self):
        desk = claimed()
        desk.do_all("drop x", "undo")
        before = desk.lines()
        desk.attach("a", ALL)
        self.same((desk.lines(), len(desk)), (before, len(before)))
        self.answers(desk, "redo", "drop x", "undo", "drop x", "undo", before[-1], "redo", before[-1])
        self.same(desk.fits("a"), True)


class FitsTest(DeskTest):
    def test_while_things_change(self):
        desk = claimed()
        desk.attach("a", ALL)
        self.answers(desk, "put full 0 y", "a false")
        self.same(desk.fits("a"), False)
        self.answers(desk, "undo", "put full 0 y")
        self.same(desk.fits("a"), True)
        self.answers(desk, "redo", "put full 0 y")
        self.same(desk.fits("a"), False)
        # All words but the last one are as free as ahead, so it is still a paper: other letters make every table, too.
        self.answers(desk, "put full 0 w", "a true", "put full 1 d", "-")
        self.same(desk.fits("a"), True)

    def test_it_is_kept_for_the_claim_or_its_contrary(self):
        desk = claimed()
        self.answers(desk, "put full 0 y", "a false")
        desk.attach("a", LOWER)
        self.same(desk.fits("a"), True)
        self.answers(desk, "put full 0 x", "a true")
        self.same(desk.fits("a"), False)
        self.answers(desk, "put full 0 y", "a false")
        self.same(desk.fits("a"), True)

    def test_what_it_was_kept_for_counts(self):
        # One value: a word that makes every table of size 1, and the row of a closed lot of size 2.
        paper = [[1, 0, 0, 1]]
        desk = Desk()
        desk.do_all("idle i 1", "idle j 2", "house h i i", "claim k all h")
        desk.attach("k", paper)
        self.same(desk.fits("k"), True)
        self.answers(desk, "drop h", "k gone", "house h j j", "k false")
        self.same((is_paper_of(contrary(desk.claim_of("k")), paper), desk.fits("k")), (True, False))
        desk.attach("k", paper)
        self.same(desk.fits("k"), True)
        self.answers(desk, "drop h", "k gone", "house h i i", "k true")
        self.same((is_paper_of(desk.claim_of("k"), paper), desk.fits("k")), (True, False))

    def test_words_that_tell_apart_and_changes(self):
        desk = Desk()
        desk.do_all("table i 1", "table z 0", "house h i", "house g z", "claim k unlike h g")
        desk.attach("k", [0])
        self.same(desk.fits("k"), True)
        self.answers(desk, "put g 0 i", "k false")
        self.same(desk.fits("k"), False)
        desk.attach("k", [[1]])
        self.same(desk.fits("k"), True)
        self.answers(desk, "put g 0 z", "k true")
        self.same(desk.fits("k"), False)

    def test_in_the_place_of_the_one_that_was_kept(self):
        desk = claimed()
        desk.attach("a", ALL)
        desk.do("put full 0 y")
        desk.attach("a", LOWER)
        self.same(desk.fits("a"), True)
        desk.do("undo")
        self.same(desk.fits("a"), False)
        desk.attach("a", ALL)
        desk.do("redo")
        self.same(desk.fits("a"), False)

    def test_dropped_and_taken_back(self):
        desk = claimed()
        desk.attach("c", [([0], 1)])
        for command in ["drop s", "drop corner"]:
            desk.do(command)
            self.same(desk.fits("c"), False)
            desk.do("undo")
            self.same(desk.fits("c"), True)
        desk.do_all("drop s", "table s 1,1 0,1")
        self.same(desk.fits("c"), True)
        desk.do_all("drop s", "rows s 1,1 0,1")
        self.same(desk.fits("c"), False)

    def test_forgotten_and_noted_again(self):
        desk = claimed()
        desk.attach("a", ALL)
        desk.do("forget a")
        self.fails(UnknownLabel, {"value": "a"}, desk.fits, "a")
        desk.do("claim a all full")
        self.same(desk.fits("a"), True)
        # Other words: also the contrary's, or those of a house that is the same.
        desk.do_all("forget a", "claim a less full")
        self.same(desk.fits("a"), False)
        desk.do_all("drop w", "house twin x y", "forget a", "claim a all twin")
        self.same(desk.fits("a"), False)
        desk.do_all("forget a", "claim a all full")
        self.same(desk.fits("a"), True)

    def test_a_label_that_is_taken_back(self):
        desk = filled()
        desk.do("claim k all full")
        desk.attach("k", ALL)
        desk.do("undo")
        self.fails(UnknownLabel, {"value": "k"}, desk.fits, "k")
        self.fails(UnknownLabel, {"value": "k"}, desk.attach, "k", ALL)
        desk.do("redo")
        self.same(desk.fits("k"), True)
        desk.do_all("undo", "drop none", "claim k less full")
        self.same(desk.fits("k"), False)

    def test_attached_to_other_words(self):
        desk = claimed()
        desk.attach("a", ALL)
        desk.do_all("forget a", "claim a less full")
        self.same(desk.fits("a"), False)
        desk.attach("a", ALL)
        self.same(desk.fits("a"), True)
        desk.do_all("forget a", "claim a all full")
        self.same(desk.fits("a"), False)
        desk.do_all("undo", "undo")
        self.same(desk.fits("a"), True)

    def test_led_out(self):
        desk = claimed()
        desk.do("row low 0 1,0")
        desk.attach("m", (0, 0))
        self.same(desk.fits("m"), True)
        self.same(desk.fits("k"), False)
        desk.do("row low 0 2,3")
        self.same(desk.fits("m"), True)
        desk.do("row low 0 0,3")
        self.same(desk.fits("m"), False)

    def test_numbers_and_kinds(self):
        desk = claimed()
        for paper in [told([[1, 1], [0, 1]]), ((1, 1), (0, 1)), [[1, 1], (0, 1)]]:
            self.fails(InvalidPaper, {"value": paper}, desk.attach, "g", paper)
        for paper in [told([[1, 0], [0, 1]]), ((1, 0), (0, 3)), [[1, 0], (0, 1)]]:
            desk.attach("g", paper)
            self.same(desk.fits("g"), True)
        self.fails(InvalidPaper, {"value": [[True, 0], [0, 1]]}, desk.attach, "g", [[True, 0], [0, 1]])

    def test_copies_keep_papers(self):
        desk = claimed()
        desk.attach("a", ALL)
        other = desk.copy()
        desk.do("put full 0 y")
        desk.attach("a", LOWER)
        self.same((desk.fits("a"), other.fits("a")), (True, True))
        self.same(Desk.again(desk.lines()).fits("a"), False)


if __name__ == "__main__":
    unittest.main()
