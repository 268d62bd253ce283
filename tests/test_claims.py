"""[93] Claims and their papers, [94] facts of them."""
import copy
import functools
import random
import unittest
from fractions import Fraction

from tests.helper import (Odd, PackageTest, bent_letters, edge_letters, fractions, lists_within, never_valid, no_lists,
                          plain_idle, plain_led, plain_long, plain_rank, plain_steps, plain_sum, plain_times,
                          plain_word,
                          some_rows, some_undone, spoiled, told, tupled, whole_room, words_up_to)
from tests.test_houses import some_letters
from tests.test_lots import plain_lot, plain_made
from tracewords.alike import alike_sums
from tracewords.claims import contrary, is_claim, is_paper_of, is_true, paper_of, words
from tracewords.errors import InvalidClaim, NotParted, TooMany
from tracewords.houses import House, led_house
from tracewords.leads import leads
from tracewords.ratios import Ratio
from tracewords.sums import parts

HALF = Ratio(1, 2)
SLOPE, CLIMB, DOUBLE = [[1, 1], [0, 1]], [[1, 0], [1, 1]], [[1, 0], [0, 2]]
FULL, CORNER, LINE = House([SLOPE, CLIMB]), House([SLOPE, DOUBLE]), House([DOUBLE])
WORDS = [("all", "less"), ("made", "notmade"), ("parts", "nil"), ("alike", "unlike"), ("kept", "ledout")]
ALONE = ["all", "less", "parts", "nil"]


def claims_of(house, table, other, rows):
    """All claims that can be made of these."""
    found = [(word, house) for word in ALONE]
    for pair, part in [(WORDS[1], table), (WORDS[3], other), (WORDS[4], rows)]:
        found += [(word, house, part) for word in pair]
    return found


@functools.lru_cache(maxsize=None)
def known():
    """Tuples of a house, a table of its size, another house of as many letters and a list of rows."""
    source = random.Random(931)
    found = []
    for letters in edge_letters() + some_letters(932, 1):
        if len(letters) == 3 and len(letters[0]) > 3:
            continue
        size, many = len(letters[0]), len(letters)
        inside = told(plain_word(letters, [source.randrange(many) for _ in range(source.choice([0, 1, 2, 3]))]))
        outside = some_rows(source, size, size)
        others = [House(told(bent_letters(letters, some_undone(source, size)))), House(letters[::-1]),
                  House([[[source.choice([0, 1, 2])]] for _ in range(many)])]
        for table, other in [(inside, others[0]), (outside, source.choice(others[1:]))]:
            rows = some_rows(source, source.choice([0, 1, 1, 2, 3]), size)
            found.append((House(told(letters)), table, other, rows))
    return found


def plain_parts(house):
    """Whether the table of sums, of all products of base words, has as many free rows as rows."""
    letters = fractions(house.letters())
    rows = plain_lot(letters)[0]
    tables = [plain_word(letters, word) for word in rows]
    return plain_rank([[plain_sum(plain_times(mine, its)) for its in tables] for mine in tables]) == len(tables)


def plain_true(claim):
    """Whether a claim of the first word of a line is true, by the document's words."""
    word, house, *others = claim
    letters = fractions(house.letters())
    if word == "all":
        return len(plain_lot(letters)[0]) == house.width ** 2
    if word == "made":
        return plain_made(plain_lot(letters)[1], plain_long(fractions(others[0])))
    if word == "parts":
        return plain_parts(house)
    if word == "alike":
        its = fractions(others[0].letters())
        longest = 6 if house.many == 1 else 4
        return all(plain_sum(plain_word(letters, one)) == plain_sum(plain_word(its, one))
                   for one in words_up_to(house.many, longest))
    steps = plain_steps(others[0])
    return all(plain_made(steps, plain_led(row, letter)) for row in steps for letter in letters)


def stops(claim, for_papers=False):
    """Whether an error stops it, or the search for papers of it and its contrary."""
    if claim[0] not in ("alike", "unlike"):
        return False
    _, mine, its = claim
    if not parts(mine) or not parts(its):
        return True
    return for_papers and mine.width == its.width and alike_sums(mine, its) and len(leads(mine, its)) > 6


def wrong_claims():
    """Values that are no claim."""
    found = no_lists() + never_valid() + [(), [], ("all",), "all", ["all", FULL], ("all", FULL, FULL), ("all", [SLOPE]),
                                          ("All", FULL), ("none", FULL), ("", FULL), (None, FULL), (FULL, "all"),
                                          (("all", "less"), FULL), ("all", House), ("all", FULL, None), ("less", None)]
    for word in ALONE:
        found += [(word,), (word, FULL, FULL), (word, FULL, SLOPE), (word, FULL, []), [word, FULL]]
        found += [(word, one) for one in no_lists() + [[FULL]] if not isinstance(one, House)]
    for word in ("made", "notmade"):
        found += [(word, FULL), (word, FULL, SLOPE, SLOPE), (word, SLOPE, FULL), (word, FULL, FULL)]
        found += [[word, FULL, SLOPE], (word, [SLOPE], SLOPE)]
        others = spoiled(SLOPE) + no_lists() + [[], [[1]], whole_room(3), [[1, True]] * 2]
        found += [(word, FULL, one) for one in others]
    for word in ("alike", "unlike"):
        found += [(word, FULL), (word, FULL, LINE), (word, LINE, FULL), (word, FULL, FULL, FULL), (word, FULL, SLOPE),
                  (word, FULL, None), [word, FULL, FULL], (word, None, FULL), (word, FULL, [SLOPE, CLIMB])]
    for word in ("kept", "ledout"):
        found += [(word, FULL), (word, FULL, [], []), (word, FULL, FULL), [word, FULL, []], (word, FULL, [[1]]),
                  (word, FULL, [[1, 0], [1, 0, 0]]), (word, FULL, [[1, 0]] * 41), (word, FULL, [1, 0]),
                  (word, [], FULL)]
        found += [(word, FULL, one) for one in spoiled([[1, 0], [2, 3]]) + no_lists() + [[[True, False]]]]
    return found


class WordsTest(PackageTest):
    def test_words(self):
        self.gives(WORDS, words)
        words().clear()
        self.gives(WORDS, words)


class IsClaimTest(PackageTest):
    def test_claims(self):
        for parts_of in known():
            for claim in claims_of(*parts_of):
                self.same(is_claim(claim), True)
                self.same(is_claim(value=claim), True)

    def test_tuples_and_lists_by_place(self):
        for claim in [("made", FULL, tupled(SLOPE)), ("made", FULL, [(1, 0), [HALF, 1]]), ("kept", FULL, ()),
                      ("kept", FULL, ((1, 0),)), ("ledout", FULL, [(HALF, 0)] * 40), ("kept", FULL, [])]:
            self.gives(True, is_claim, value=claim)
            self.gives(False, is_claim, value=list(claim))

    def test_nothing_is_decided(self):
        # Houses that do not part, and more than six leads, are claims' parts as well.
        self.gives(True, is_claim, value=("alike", CORNER, CORNER))
        self.gives(True, is_claim, value=("unlike", CORNER, House([[[1]], [[1]]])))
        self.gives(True, is_claim, value=("alike", House([whole_room(4)]), House([whole_room(4)])))
        self.gives(True, is_claim, value=("made", CORNER, [[0, 0], [1, 0]]))

    def test_values_of_every_kind(self):
        for value in wrong_claims():
            self.same(is_claim(value), False)

    def test_errors(self):
        for value in wrong_claims():
            for call in [is_true, contrary, paper_of]:
                self.fails_both(InvalidClaim, {"value": value}, call, claim=value)
            self.fails_both(InvalidClaim, {"value": value}, is_paper_of, claim=value, value=[])


class IsTrueTest(PackageTest):
    def test_ordinary(self):
        for wanted, claim in [(True, ("all", FULL)), (False, ("less", FULL)), (False, ("all", LINE)),
                              (True, ("less", LINE)), (True, ("made", LINE, [[3, 0], [0, 5]])),
                              (False, ("made", LINE, SLOPE)), (True, ("notmade", LINE, SLOPE)),
                              (True, ("parts", LINE)), (True, ("nil", CORNER)), (False, ("parts", CORNER)),
                              (True, ("alike", LINE, LINE)), (False, ("unlike", LINE, LINE)),
                              (True, ("unlike", LINE, House([[[1]]]))), (False, ("alike", LINE, House([[[1]]]))),
                              (True, ("kept", LINE, [[0, 1]])), (True, ("ledout", FULL, [[1, 0]])),
                              (False, ("kept", FULL, [[1, 0]])), (True, ("kept", FULL, [])),
                              (True, ("kept", FULL, [[0, 0]])), (True, ("kept", FULL, [[1, 1], [1, 2]]))]:
            self.gives(wanted, is_true, claim=claim)

    def test_by_the_words_of_the_document(self):
        seen = {}
        for parts_of in known():
            for claim in claims_of(*parts_of):
                if stops(claim):
                    continue
                first = [pair[0] for pair in WORDS if claim[0] in pair][0]
                wanted = plain_true((first, *claim[1:])) == (claim[0] == first)
                seen[(claim[0], wanted)] = True
                self.gives(wanted, is_true, claim=claim)
                self.gives(not wanted, is_true, claim=contrary(claim))
        self.assertEqual(len(seen), 20, seen)

    def test_houses_that_do_not_part(self):
        for word in ("alike", "unlike"):
            for mine, its in [(CORNER, CORNER), (CORNER, FULL), (FULL, CORNER), (CORNER, House([[[1]], [[2]]]))]:
                self.fails_both(NotParted, {}, is_true, claim=(word, mine, its))
                self.fails_both(NotParted, {}, paper_of, claim=(word, mine, its))


class ContraryTest(PackageTest):
    def test_each_line(self):
        for parts_of in known()[:20]:
            for claim in claims_of(*parts_of):
                found = contrary(claim)
                other = [one for pair in WORDS if claim[0] in pair for one in pair if one != claim[0]][0]
                self.gives((other, *claim[1:]), contrary, claim=claim)
                self.gives(claim, contrary, claim=found)

    def test_parts_stay_as_they_were_passed(self):
        for claim in [("made", FULL, [(1, HALF), [Ratio(2), 0]]), ("kept", FULL, ((1, 0), [HALF, Ratio(3)])),
                      ("ledout", FULL, ()), ("notmade", FULL, ((1, 0), (0, 1)))]:
            found = contrary(claim)
            self.same(found[1:], claim[1:])
            self.assertFalse([one for one in lists_within(found) if any(one is its for its in lists_within(claim))])

    def test_what_is_returned_is_new(self):
        table = [[1, 0], [0, 1]]
        found = contrary(("made", FULL, table))
        found[2][0][0] = 9
        self.same(table, [[1, 0], [0, 1]])
        row = (1, 0)
        self.assertIsNot(contrary(("kept", FULL, (row,)))[2][0], row)

    def test_also_of_houses_that_do_not_part(self):
        self.gives(("unlike", CORNER, CORNER), contrary, claim=("alike", CORNER, CORNER))


class PaperOfTest(PackageTest):
    def test_a_paper_exactly_if_it_is_true(self):
        seen = {}
        for parts_of in known():
            for claim in claims_of(*parts_of):
                if stops(claim, for_papers=True):
                    continue
                before = copy.deepcopy(claim[2:])
                found = paper_of(claim)
                self.same(claim[2:], before)
                self.assertEqual(found is not None, is_true(claim) and claim[0] != "kept", claim)
                seen[(claim[0], found is not None)] = True
                self.gives(found, paper_of, claim=claim)
                if found is not None:
                    self.gives(True, is_paper_of, claim=claim, value=found)
                    self.gives(True, is_paper_of, claim=claim, value=tupled(found))
                    self.gives(False, is_paper_of, claim=contrary(claim), value=found)
                    self.check_numbers(claim[0], found)
        self.assertEqual(len(seen), 19, seen)

    def check_numbers(self, word, found):
        """Numbers of a paper are Ratios, but for words and positions."""
        if word in ("less", "notmade", "alike"):
            self.same(found, told(fractions(found)))
        elif word in ("made", "nil"):
            for one, number in found:
                self.assertTrue(all(type(at) is int for at in one))
                self.assertIs(type(number), Ratio)
        elif word == "ledout":
            self.assertEqual([type(found), *map(type, found)], [tuple, int, int])
        elif word == "unlike":
            self.assertTrue(all(type(at) is int for at in found))
        else:
            self.assertTrue(all(type(at) is int for one in found for at in one))

    def test_more_than_six_leads(self):
        calm = House([whole_room(3)])
        self.fails_both(TooMany, {"what": "leads", "limit": 6}, paper_of, claim=("alike", calm, calm))
        self.gives(None, paper_of, claim=("unlike", calm, calm))
        self.gives(True, is_true, claim=("alike", calm, calm))
        self.gives(None, paper_of, claim=("alike", calm, House([[[2, 0, 0], [0, 2, 0], [0, 0, 2]]])))
        self.gives(True, is_paper_of, claim=("alike", calm, calm), value=some_undone(random.Random(1), 3))

    def test_kept_has_none(self):
        self.gives(None, paper_of, claim=("kept", LINE, [[0, 1]]))
        self.gives(None, paper_of, claim=("kept", FULL, [[0, 1]]))
        self.gives(None, paper_of, claim=("ledout", LINE, [[0, 1]]))
        self.gives((0, 0), paper_of, claim=("ledout", FULL, [[1, 0]]))


class IsPaperOfTest(PackageTest):
    def let(self, claim, *values):
        """Each value is a paper, also with tuples in the place of lists inside it."""
        for value in values:
            self.gives(True, is_paper_of, claim=claim, value=value)

    def not_let(self, claim, *values):
        """No value is a paper."""
        for value in values:
            self.same(is_paper_of(claim, value), False)
            self.same(is_paper_of(value=value, claim=claim), False)

    def test_all(self):
        claim = ("all", FULL)
        good = [[], [0], [1], [0, 1]]
        self.let(claim, good, tupled(good), [(), [0], (1,), [1, 0]], good[::-1], [[0] * 16, [], [1], [0, 1]],
                 [[0, 1], [1, 0], [0], [1]])
        self.not_let(claim, good[:3], good + [[1, 0]], [[], [0], [0, 0], [1]], [[], [], [0], [1]], [],
                     [[], [0], [1], [2]], [[], [0], [1], [True]], [[], [0], [1], [0] * 17], [[], [0], [1], 1],
                     [[], [0], [1], [Ratio(1)]], *spoiled(good))
        self.not_let(("all", LINE), [[], [0]], [[], [0], [0, 0], [0, 0, 0]], [])
        self.let(("all", House([[[0]]])), [[]])
        self.not_let(("all", House([[[0]]])), [[0]], [])

    def test_less(self):
        closed = [[1, 0, 0, 0], [0, 0, 0, 1]]
        self.let(("less", LINE), closed, tupled(closed), told(closed), [[1, 0, 0, 0], [0, 1, 0, 0], [0, 0, 0, 1]])
        self.not_let(("less", LINE), whole_room(4), closed[:1], [[1, 0, 0, 1]], [], closed[::-1],
                     [[2, 0, 0, 0], [0, 0, 0, 1]], closed + [[0, 0, 0, 1]], *spoiled(closed))
        self.not_let(("less", FULL), whole_room(4), closed, [])
        self.not_let(("less", House([[[3]]])), [[1]], [])

    def test_made(self):
        claim = ("made", LINE, [[3, 0], [0, 5]])
        self.let(claim, [([], 1), ([0], 2)], (((), 1), ((0,), 2)), [([0], 2), ([], 1)],
                 [([0, 0], Ratio(2, 3)), ([], Ratio(7, 3))], [([], 1), ([0], 1), ([0], 1)],
                 [([], 1), ([0], 2)] + [([], 0)] * 38)
        self.not_let(claim, [([], 1), ([0], 3)], [([], 1)], [], [[[], 1], ([0], 2)], [([], 1), ([1], 2)],
                     [([], 1), ([0], 2), ([], True)], [([], 1), ([0], 2)] + [([], 0)] * 39, [([], True), ([0], 2)],
                     [([], 1), ([False], 2)], *spoiled([([], 1), ([0], 2)]))
        self.let(("made", LINE, [[0, 0], [0, 0]]), [], (), [([0], 0)], [([0], 2), ([0], -2)])

    def test_notmade(self):
        claim = ("notmade", LINE, SLOPE)
        closed = [[1, 0, 0, 0], [0, 0, 0, 1]]
        self.let(claim, closed, tupled(closed), [[1, 0, 0, 0], [0, 0, 1, 0], [0, 0, 0, 1]])
        self.not_let(claim, [[1, 0, 0, 0], [0, 1, 0, 0], [0, 0, 0, 1]], whole_room(4), closed[:1], [], *spoiled(closed))
        self.not_let(("notmade", LINE, DOUBLE), closed, whole_room(4))

    def test_parts(self):
        self.let(("parts", LINE), [[], [0]], [[0], [0, 0]], ((), (0, 0, 0)), [[0] * 16, [0] * 15], [[0], []])
        self.not_let(("parts", LINE), [[]], [[], []], [[], [0], [0, 0]], [], [[], [1]], [[], [False]], [[], [0] * 17],
                     *spoiled([[], [0]]))
        self.let(("parts", FULL), [[], [0], [1], [0, 1]], [[], [0], [1], [1, 0]])
        self.not_let(("parts", FULL), [[], [0], [1]], [[], [0], [1], [0, 0]], [[], [0], [1], [0, 1], [1, 0]])
        self.not_let(("parts", CORNER), [[], [0], [1]], [[], [1]], [[]], [])
        self.let(("parts", House([[[0, 0], [0, 0]]])), [[]])
        self.not_let(("parts", House([[[0, 0], [0, 0]]])), [[0]], [[], [0]])
        self.not_let(("parts", House([[[0, 1], [0, 0]]])), [[]], [[], [0]])

    def test_nil(self):
        self.let(("nil", CORNER), [([], -2), ([0], 2)], (((0,), 1), ((), -1)), [([0, 1], HALF), ([1], -HALF)],
                 [([0, 0], 1), ([0], -1)])
        self.not_let(("nil", CORNER), [], [([], 0)], [([], 1)], [([0], 1), ([0], -1)], [([], -2), ([0], 3)],
                     [[[], -2], [[0], 2]], [([], -1), ([0], True)], *spoiled([([], -2), ([0], 2)]))
        self.not_let(("nil", FULL), [([], -2), ([0], 2)], [])

    def test_alike(self):
        other = led_house(LINE, [[1, 1], [0, 1]])
        good = [[1, -1], [0, 1]]
        self.let(("alike", LINE, other), good, tupled(good), told(good), [[2, -2], [0, 3]])
        self.not_let(("alike", LINE, other), [[1, 1], [0, 1]], [[0, 0], [0, 0]], [[1]], whole_room(3), [],
                     [[1, -1], [0, True]], *spoiled(good))
        # Also of houses that do not part.
        self.let(("alike", CORNER, CORNER), whole_room(2), [[2, 0], [0, 2]])
        self.not_let(("alike", House([[[0, 0], [0, 0]]]), House([[[0, 1], [0, 0]]])), whole_room(2))
        self.not_let(("alike", LINE, House([[[1]]])), [[1]], whole_room(2))

    def test_unlike(self):
        claim = ("unlike", LINE, House([[[1]]]))
        self.let(claim, [], (), [0], (0, 0), [0] * 16)
        self.not_let(claim, [1], [0] * 17, [True], [False], *never_valid(), [[0]], spoiled([0]))
        self.not_let(("unlike", LINE, LINE), [], [0], [0, 0])
        self.let(("unlike", CORNER, FULL), [1])
        self.not_let(("unlike", CORNER, FULL), [], [0])

    def test_kept_and_ledout(self):
        self.not_let(("kept", LINE, [[0, 1]]), None, (0, 0), [], (), [[0, 1]], *never_valid())
        claim = ("ledout", FULL, [[2, 0]])
        self.let(claim, (0, 0))
        self.not_let(claim, (0, 1), (1, 0), (0, 2), [0, 0], (0,), (0, 0, 0), (False, False), (0, False), (False, 0),
                     (Ratio(0), 0), (0, Ratio(0)), (-1, 0), (0, -1), (0, -2), None, 0, (), "00", *never_valid())
        # The position is that of a step, not of a row as it was passed.
        swap = House([[[0, 1, 0], [1, 0, 0], [0, 0, 1]], [[1, 0, 0], [0, 0, 1], [0, 1, 0]]])
        rows = [[0, 0, 5], [0, 0, 1], [2, 0, 0]]
        self.let(("ledout", swap, rows), (0, 0), (1, 1))
        self.not_let(("ledout", swap, rows), (0, 1), (1, 0), (2, 0), (2, 1))
        self.let(("ledout", swap, tupled(rows)), (0, 0), (1, 1))
        self.not_let(("ledout", swap, whole_room(3)), (0, 0), (1, 1))
        self.not_let(("ledout", swap, []), (0, 0))

    def test_papers_bent_in_one_thing(self):
        source = random.Random(941)
        for parts_of in known():
            for claim in claims_of(*parts_of):
                if stops(claim, for_papers=True):
                    continue
                found = paper_of(claim)
                if found is None:
                    continue
                kinds = spoiled(found)
                if claim[0] == "unlike":
                    kinds = [[*found, 7], [*found, True], (*found, None)]
                for value in source.sample(kinds, min(len(kinds), 12)):
                    self.not_let(claim, value)
                if claim[0] in ("all", "parts", "less", "notmade"):
                    self.not_let(claim, found[:-1], [*found, found[0]])
                if claim[0] == "made" and found:
                    self.not_let(claim, [(found[0][0], found[0][1] + 1), *found[1:]], found[1:], found + found[:1])

    def test_values_of_every_kind(self):
        for claim in claims_of(FULL, SLOPE, CORNER, [[1, 0]]):
            self.not_let(claim, *never_valid(), *[one for one in no_lists() if one != []], Odd(), [[None]], [(1,)],
                         [5], {}, claim, FULL, [FULL], "[]", Fraction(1))
            self.not_let(claim, True, False)

    def test_just_one_has_a_paper(self):
        for parts_of in known()[::3]:
            claims = [one for one in claims_of(*parts_of) if not stops(one, for_papers=True)]
            papers = [paper_of(one) for one in claims]
            for claim, paper in zip(claims, papers):
                other = paper_of(contrary(claim))
                if claim[0] not in ("kept", "ledout"):
                    self.assertNotEqual(paper is None, other is None)
                for value in [one for one in papers if one is not None]:
                    self.assertFalse(is_paper_of(claim, value) and is_paper_of(contrary(claim), value))
                    self.assertFalse(is_paper_of(claim, value) and not is_true(claim))

    def test_nothing_passed_is_changed(self):
        closed = [[1, 0, 0, 0], [0, 0, 0, 1]]
        self.gives(True, is_paper_of, claim=("notmade", LINE, [[1, 1], [0, 1]]), value=closed)
        self.gives(True, is_paper_of, claim=("made", LINE, told(plain_idle(2))), value=[([], 1)])


if __name__ == "__main__":
    unittest.main()
