"""A desk: things under names, claims under labels, deeds that are taken back and done again."""

from hingerows.answers import answer_by, changes_text
from hingerows.basics import is_list
from hingerows.claims import contrary, is_paper_of
from hingerows.commands import is_command, is_deed, told_parts
from hingerows.deeds import shelf_after
from hingerows.errors import (
    CommandFailed, HingeError, InvalidCommand, InvalidLines, InvalidPaper, LimitError, MissingError, NothingToRedo,
    NothingToUndo, StateError, TooMany, UnknownLabel, UnknownName,
)
from hingerows.shelves import Shelf, check_words, claim_by, copied


class Moment:
    """All of a desk at one moment; it never changes, so that whoever holds it can bring the moment back.

    Each deed that can be taken back stands with the shelf ahead of it, each that can be done again with the one
    behind it; each paper stands under its label with the claim's words and the word of the side that it shows.
    """

    def __init__(self, shelf, deeds, taken, papers):
        self.shelf = shelf
        self.deeds = deeds
        self.taken = taken
        self.papers = papers


class Desk:
    """Things under names, and claims about them under labels, changed by commands."""

    def __init__(self):
        self._now = Moment(Shelf({}, {}, {}), (), (), {})

    @property
    def names(self):
        """The sorted list of the names of what is kept."""
        return sorted(list(self._now.shelf.things))

    @property
    def labels(self):
        """The sorted list of the labels of what is noted."""
        return sorted(list(self._now.shelf.notes))

    def __len__(self):
        return len(self._now.deeds)

    def __getitem__(self, at):
        if at not in self:
            raise UnknownName(at)
        return copied(self._now.shelf.things[at])

    def __iter__(self):
        raise TypeError("a desk is not iterated over")

    def __contains__(self, x):
        return isinstance(x, str) and x in self._now.shelf.things

    def __call__(self, command):
        return self.do(command)

    def claim_of(self, label):
        """The claim under the label, of what is kept now, None while it is gone."""
        words = self._words_of(label)
        return claim_by(self._now.shelf.things, words)

    def do(self, command):
        """The answer to the command, which may change the desk."""
        if not is_command(command):
            raise InvalidCommand(command)
        now, word, parts = self._now, command.split(" ")[0], told_parts(command)
        check_words(now.shelf, parts)
        if word == "undo":
            return self._undone()
        if word == "redo":
            return self._redone()
        if not is_deed(command):
            return answer_by(now.shelf, word, parts)
        later = shelf_after(now.shelf, word, parts)
        if len(now.deeds) >= 300:
            raise TooMany("deeds", 300)
        self._now = Moment(later, (*now.deeds, (command, now.shelf)), (), now.papers)
        return changes_text(now.shelf, later)

    def do_all(self, *commands):
        """The list of the answers; if one command fails, none has an effect."""
        before, answers = self._now, []
        for position, command in enumerate(commands):
            try:
                answers.append(self.do(command))
            except (HingeError, MissingError, StateError, LimitError) as why:
                self._now = before
                raise CommandFailed(position) from why
        return answers

    def attempt(self, *commands):
        """The list of the answers; all is as before."""
        before = self._now
        answers = self.do_all(*commands)
        self._now = before
        return answers

    def attach(self, label, paper):
        """Keep a paper of the label's claim, or of its contrary, with the label."""
        words = self._words_of(label)
        claim = claim_by(self._now.shelf.things, words)
        sides = [] if claim is None else [claim, contrary(claim)]
        shown = [side[0] for side in sides if is_paper_of(side, paper)]
        if not shown:
            raise InvalidPaper(paper)
        now = self._now
        papers = {**now.papers, label: (words, shown[0], copied_paper(paper))}
        self._now = Moment(now.shelf, now.deeds, now.taken, papers)

    def fits(self, label):
        """Whether a paper is kept with the label for its words, and still is one of what it was kept for."""
        words = self._words_of(label)
        claim = claim_by(self._now.shelf.things, words)
        kept_for, shown, paper = self._now.papers.get(label, ((), "", None))
        if claim is None or kept_for != words:
            return False
        return is_paper_of(claim if claim[0] == shown else contrary(claim), paper)

    def lines(self):
        """The list of the lines of the deeds that are not taken back."""
        return [line for line, _ in self._now.deeds]

    def copy(self):
        """A desk with the same things, labels, papers and deeds, which goes on by itself."""
        other = Desk()
        other._now = self._now
        return other

    @classmethod
    def again(cls, lines):
        """A desk that has done these deeds."""
        if not is_list(lines):
            raise InvalidLines(None)
        for position, line in enumerate(lines):
            if not is_deed(line):
                raise InvalidLines(position)
        desk = cls()
        desk.do_all(*lines)
        return desk

    def _words_of(self, label):
        """The words of the claim under the label."""
        if not isinstance(label, str) or label not in self._now.shelf.notes:
            raise UnknownLabel(label)
        return self._now.shelf.notes[label]

    def _undone(self):
        """Take back the last deed: its line."""
        now = self._now
        if not now.deeds:
            raise NothingToUndo()
        line, shelf = now.deeds[-1]
        self._now = Moment(shelf, now.deeds[:-1], (*now.taken, (line, now.shelf)), now.papers)
        return line

    def _redone(self):
        """Do the deed again that was taken back last: its line."""
        now = self._now
        if not now.taken:
            raise NothingToRedo()
        line, shelf = now.taken[-1]
        self._now = Moment(shelf, (*now.deeds, (line, now.shelf)), now.taken[:-1], now.papers)
        return line


class Trial:
    """A block behind which all of a desk is as it was ahead of it."""

    def __init__(self, desk):
        self._desk = desk
        self._before = None

    def __enter__(self):
        self._before = self._desk._now
        return self._desk

    def __exit__(self, kind, value, trace):
        desk = self._desk
        desk._now = self._before


def tried(desk, action):
    """What the action returns for the desk, all of which is then as before."""
    with Trial(desk) as held:
        return action(held)


def copied_paper(paper):
    """The paper with new lists for those in it."""
    if isinstance(paper, list):
        return [copied_paper(part) for part in paper]
    return tuple([copied_paper(part) for part in paper]) if isinstance(paper, tuple) else paper
