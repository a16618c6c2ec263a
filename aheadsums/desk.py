"""Desks, which keep things under names and claims under labels, do commands, and take them back."""

from aheadsums.basics import is_list
from aheadsums.books import (Book, changes_told, claim_now, claim_told, led_to_things, need_fitting, need_label,
                             states_told)
from aheadsums.claims import contrary, is_paper_of
from aheadsums.commands import is_deed, is_name, is_word_of_deed, parsed
from aheadsums.deeds import book_after
from aheadsums.errors import (CommandFailed, InvalidCommand, InvalidDeeds, InvalidPaper, LimitError, MissingError,
                              NothingToRedo, NothingToUndo, StateError, SumsError, TooMany, UnknownName)
from aheadsums.questions import answer_to

MOST_DEEDS = 300


class Held:
    """All that a desk has at one time; it never changes.

    past, undone: the lists of the deeds that can be taken back, that can be done again, the next one last; each is a
    tuple of its line, the book ahead of it and the book behind it. papers: by label, tuples of the claim's words when
    it was attached, whether it is one of the contrary, and the paper.
    """

    def __init__(self, book, past, undone, papers):
        self.book = book
        self.past = past
        self.undone = undone
        self.papers = papers


class Desk:
    """At most 12 things under names, and at most 12 claims under labels."""

    def __init__(self):
        self._held = Held(Book({}, {}, {}), [], [], {})

    @property
    def names(self):
        """The sorted list of the names under which something is kept."""
        return sorted(self._held.book.things)

    @property
    def labels(self):
        """The sorted list of the labels under which a claim is noted."""
        return sorted(self._held.book.claims)

    def __len__(self):
        return len(self._held.past)

    def __contains__(self, value):
        return is_name(value) and value in self._held.book.things

    def __getitem__(self, name):
        if not is_name(name) or name not in self._held.book.things:
            raise UnknownName(name)
        return self._held.book.things[name]

    def __iter__(self):
        raise TypeError("a desk is not iterated over")

    def __call__(self, command):
        return self.do(command)

    def claim_of(self, label):
        """The claim as a tuple, with what is kept now; None while its state is gone."""
        book = self._held.book
        need_label(book, label)
        return None if book.states[label] == "gone" else claim_now(book.things, book.claims[label])

    def do(self, command):
        """Does the command; its answer, a string."""
        told = parsed(command)
        if told is None:
            raise InvalidCommand(command)
        word, kinds, values = told
        need_fitting(self._held.book, kinds, values)
        if word == "undo":
            return self._undo()
        if word == "redo":
            return self._redo()
        if is_word_of_deed(word):
            return self._do_deed(command, word, kinds, values)
        return _answer(self._held.book, word, kinds, values)

    def _do_deed(self, line, word, kinds, values):
        held = self._held
        after = book_after(held.book, word, kinds, values)
        if len(held.past) >= MOST_DEEDS:
            raise TooMany("deeds", MOST_DEEDS)
        self._held = Held(after, held.past + [(line, held.book, after)], [], held.papers)
        return changes_told(held.book, after)

    def _undo(self):
        held = self._held
        if not held.past:
            raise NothingToUndo()
        deed = held.past[-1]
        self._held = Held(deed[1], held.past[:-1], held.undone + [deed], held.papers)
        return deed[0]

    def _redo(self):
        held = self._held
        if not held.undone:
            raise NothingToRedo()
        deed = held.undone[-1]
        self._held = Held(deed[2], held.past + [deed], held.undone[:-1], held.papers)
        return deed[0]

    def do_all(self, *commands):
        """Does the commands; the list of their answers; if one fails, none has an effect."""
        ahead = self._held
        answers = []
        for position, command in enumerate(commands):
            try:
                answers.append(self.do(command))
            except (SumsError, MissingError, StateError, LimitError) as error:
                self._held = ahead
                raise CommandFailed(position) from error
        return answers

    def attempt(self, *commands):
        """The list of the answers to the commands; all is as before."""
        ahead = self._held
        try:
            return self.do_all(*commands)
        finally:
            self._held = ahead

    def attach(self, label, paper):
        """Keeps a paper of the label's claim, or of its contrary, with the label."""
        held = self._held
        claim = self.claim_of(label)
        if claim is None:
            raise InvalidPaper(paper)
        is_contrary = not is_paper_of(claim, paper)
        if is_contrary and not is_paper_of(contrary(claim), paper):
            raise InvalidPaper(paper)
        papers = {key: held.papers[key] for key in held.papers}
        papers[label] = (claim_told(held.book.claims[label]), is_contrary, _copied(paper))
        self._held = Held(held.book, held.past, held.undone, papers)

    def fits(self, label):
        """Whether a paper is kept with the label that is one now, of the same words, of what it was kept for."""
        held = self._held
        claim = self.claim_of(label)
        if claim is None or label not in held.papers:
            return False
        words, is_contrary, paper = held.papers[label]
        if words != claim_told(held.book.claims[label]):
            return False
        return is_paper_of(contrary(claim) if is_contrary else claim, paper)

    def lines(self):
        """The list of the lines of the deeds that are not taken back."""
        return [deed[0] for deed in self._held.past]

    def copy(self):
        """A desk with all that this one has, which goes on by itself."""
        other = Desk()
        other._held = self._held
        return other

    @classmethod
    def again(cls, lines):
        """A desk that has done these deeds."""
        if not is_list(lines):
            raise InvalidDeeds(None)
        for position, line in enumerate(lines):
            if not is_deed(line):
                raise InvalidDeeds(position)
        desk = cls()
        desk.do_all(*lines)
        return desk


def _answer(book, word, kinds, values):
    """The answer to a command that changes nothing."""
    if word == "names":
        return " ".join(sorted(book.things)) if book.things else "-"
    if word == "states":
        return states_told(book.states)
    if word == "state":
        return book.states[values[0]]
    if word == "claimed":
        return claim_told(book.claims[values[0]])
    return answer_to(word, led_to_things(book.things, kinds, values))


def _copied(value):
    """The value with copies of its lists and tuples, also of those inside them."""
    if isinstance(value, list):
        return [_copied(one) for one in value]
    if isinstance(value, tuple):
        return tuple([_copied(one) for one in value])
    return value


class Trial:
    """A block in which a desk may be changed, and behind which all of it is as it was ahead."""

    def __init__(self, desk):
        self._desk = desk
        self._ahead = None

    def __enter__(self):
        desk = self._desk
        self._ahead = desk._held
        return desk

    def __exit__(self, kind, value, trace):
        desk = self._desk
        desk._held = self._ahead


def tried(desk, action):
    """What the function returns for the desk within a block that leaves no trace."""
    with Trial(desk) as held:
        return action(held)
