"""A desk that keeps things and claims, does deeds, and takes them back [95] to [98]."""
from tracewords.answers import answer, told_changes
from tracewords.basics import copied, is_list
from tracewords.claims import contrary, is_paper_of
from tracewords.commands import DEEDS, is_deed, is_name, parsed
from tracewords.deeds import shelf_after
from tracewords.errors import (CommandFailed, InvalidCommand, InvalidLines, InvalidPaper, LimitError, MissingError,
                               NothingToRedo, NothingToUndo, StateError, TableError, TooMany, UnknownLabel, UnknownName)
from tracewords.shelves import Shelf, claim_under, parts_under

MOST_NAMES = 12
MOST_LABELS = 12
MOST_DEEDS = 300


class Stand:
    """How a desk stands. It is never changed: another one takes its place.

    `past` holds tuples of the line of each deed and the shelf ahead of it, `ahead` tuples of the line of each deed that
    was taken back and the shelf behind it, `papers` under labels tuples of a claim's words, whether the paper is one of
    the claim itself, and the paper.
    """

    def __init__(self, shelf, past, ahead, papers):
        self.shelf = shelf
        self.past = past
        self.ahead = ahead
        self.papers = papers


class Desk:
    """Things under names, claims under labels, deeds, and papers of the claims."""

    def __init__(self):
        self._now = Stand(Shelf({}, {}, {}), [], [], {})

    @property
    def names(self):
        """The sorted list of the names of what is kept."""
        return sorted(list(self._now.shelf.things))

    @property
    def labels(self):
        """The sorted list of the labels of what is claimed."""
        return sorted(list(self._now.shelf.claims))

    def __len__(self):
        return len(self._now.past)

    def __getitem__(self, name):
        things = self._now.shelf.things
        if not is_name(name) or name not in things:
            raise UnknownName(name)
        return copied(things[name][1])

    def __contains__(self, value):
        return is_name(value) and value in self._now.shelf.things

    def __iter__(self):
        raise TypeError("a desk is not iterated over")

    def __call__(self, command):
        return self.do(command)

    def claim_of(self, label):
        """The claim of the label with what is kept now; None while its state is gone."""
        shelf = self._now.shelf
        if not is_name(label) or label not in shelf.claims:
            raise UnknownLabel(label)
        return None if shelf.told[label] == "gone" else claim_under(shelf, label)

    def do(self, command):
        """Do what the command says; the answer."""
        told = parsed(command)
        if told is None:
            raise InvalidCommand(command)
        word, kinds, values = told
        now = self._now
        parts = parts_under(now.shelf, kinds, values)
        if word == "undo":
            return self._take_back()
        if word == "redo":
            return self._do_again()
        if word not in DEEDS:
            return answer(now.shelf, word, values, parts)
        shelf = shelf_after(now.shelf, word, values, parts)
        check_many(shelf, now.past)
        self._now = Stand(shelf, now.past + [(command, now.shelf)], [], now.papers)
        return told_changes(now.shelf, shelf)

    def do_all(self, *commands):
        """Do what all the commands say, or nothing if one fails; the list of the answers."""
        before = self._now
        answers = []
        for position, command in enumerate(commands):
            try:
                answers.append(self.do(command))
            except (TableError, MissingError, StateError, LimitError) as why:
                self._now = before
                raise CommandFailed(position) from why
        return answers

    def attempt(self, *commands):
        """The list of the answers to all the commands; nothing is done."""
        with Trial(self):
            return self.do_all(*commands)

    def attach(self, label, paper):
        """Keep a paper of the label's claim, or of its contrary, with the label."""
        claim = self.claim_of(label)
        if claim is None:
            raise InvalidPaper(paper)
        is_own = is_paper_of(claim, paper)
        if not is_own and not is_paper_of(contrary(claim), paper):
            raise InvalidPaper(paper)
        now = self._now
        kept = (now.shelf.claims[label], is_own, copied(paper))
        self._now = Stand(now.shelf, now.past, now.ahead, {**now.papers, label: kept})

    def fits(self, label):
        """Whether the paper that is kept with the label is still one of what it was kept for."""
        claim = self.claim_of(label)
        now = self._now
        if claim is None or label not in now.papers:
            return False
        words, is_own, paper = now.papers[label]
        return words == now.shelf.claims[label] and is_paper_of(claim if is_own else contrary(claim), paper)

    def lines(self):
        """The list of the lines of the deeds that are not taken back."""
        return [line for line, _ in self._now.past]

    def copy(self):
        """A desk that goes on by itself from how this one stands."""
        desk = Desk()
        desk._now = self._now
        return desk

    @classmethod
    def again(cls, lines):
        """A desk that has done the deeds of these lines."""
        if not is_list(lines):
            raise InvalidLines(None)
        for position, line in enumerate(lines):
            if not is_deed(line):
                raise InvalidLines(position)
        desk = cls()
        desk.do_all(*lines)
        return desk

    def _take_back(self):
        """Take the last deed back; its line."""
        now = self._now
        if len(now.past) == 0:
            raise NothingToUndo()
        line, shelf = now.past[-1]
        self._now = Stand(shelf, now.past[:-1], now.ahead + [(line, now.shelf)], now.papers)
        return line

    def _do_again(self):
        """Do the deed again that was taken back last; its line."""
        now = self._now
        if len(now.ahead) == 0:
            raise NothingToRedo()
        line, shelf = now.ahead[-1]
        self._now = Stand(shelf, now.past + [(line, now.shelf)], now.ahead[:-1], now.papers)
        return line


class Trial:
    """A block behind which all of a desk is as it was ahead of it."""

    def __init__(self, desk):
        self._desk = desk
        self._kept = desk._now

    def __enter__(self):
        self._kept = self._desk._now
        return self._desk

    def __exit__(self, kind, value, trace):
        desk = self._desk
        desk._now = self._kept


def tried(desk, action):
    """What the action returns for the desk, which is behind it as it was ahead of it."""
    with Trial(desk) as held:
        return action(held)


def check_many(shelf, past):
    """Raise TooMany if there are too many names or labels, or if a deed more behind those of the past is too many."""
    if len(shelf.things) > MOST_NAMES:
        raise TooMany("names", MOST_NAMES)
    if len(shelf.claims) > MOST_LABELS:
        raise TooMany("labels", MOST_LABELS)
    if len(past) >= MOST_DEEDS:
        raise TooMany("deeds", MOST_DEEDS)
