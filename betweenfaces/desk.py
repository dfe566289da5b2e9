"""A desk: it answers lines about a design, and changes it."""

from betweenfaces.deskanswers import ANSWERS, alike_answer
from betweenfaces.deskchanges import CHANGES
from betweenfaces.designlines import design_of
from betweenfaces.deskwords import forms_for, told_by
from betweenfaces.errors import NothingToUndo, UnknownCommand
from betweenfaces.joining import joined


class Trial:
    """Lines that a desk carries out when a block begins; behind the block the desk is as it was."""

    def __init__(self, desk, lines):
        self.desk = desk
        self.lines = lines
        self.state = None

    def __enter__(self):
        desk = self.desk
        before = desk.state
        answers = None
        try:
            answers = [desk.say(line) for line in self.lines]
        finally:
            if answers is None:
                desk.state = before
        self.state = before
        return answers

    def __exit__(self, kind, value, trace):
        desk = self.desk
        desk.state = self.state


class Desk:
    """A design that is asked and changed by lines, what it was before, and designs that are kept under keys."""

    def __init__(self):
        # The design or None, those that come back by undo, and a dict of the kept ones; none of the three is changed
        # itself, so that a trial need only keep the tuple.
        self.state = (None, (), {})

    @property
    def design(self):
        """The present design, or None."""
        return self.state[0]

    @property
    def depth(self):
        """How many changes can be undone."""
        return len(self.state[1])

    def say(self, line):
        """Carries out a line and returns its answer."""
        if not isinstance(line, str) or line == "":
            raise UnknownCommand("")
        words = line.split(" ")
        if words[0] == "load" and len(words) > 1:
            return self._change(design_of(line.removeprefix("load ").split(" / ")))
        forms = forms_for(words)
        if self.design is None and words[0] != "undo":
            raise UnknownCommand(words[0])
        return self._answer(words[0], told_by(words, forms))

    def tried(self, *lines):
        """An object for `with` that carries out lines and gives their answers, and takes all back behind the block."""
        return Trial(self, lines)

    def asked(self, *lines):
        """The list of the answers to lines, which change nothing."""
        with self.tried(*lines) as answers:
            return answers

    def _answer(self, word, told):
        """Carries out a line with a right first word, of which the others tell something right."""
        design, _, kept = self.state
        if word == "undo":
            return self._undo()
        if word == "keep":
            return self._keep(told[0])
        if word in ANSWERS:
            action = ANSWERS[word]
            return action(design, *told)
        if word in CHANGES:
            action = CHANGES[word]
            return self._change(action(design, *told))
        if told[0] not in kept:
            raise UnknownCommand(word)
        if word == "alike":
            return alike_answer(design, kept[told[0]])
        return self._change(joined(design, kept[told[0]]))

    def _change(self, made):
        """Makes a design the present one."""
        design, past, kept = self.state
        self.state = (made, (*past, design), kept)
        return "ok"

    def _keep(self, key):
        """Keeps the present design under a key."""
        design, past, kept = self.state
        self.state = (design, past, {**kept, key: design})
        return "ok"

    def _undo(self):
        """Takes the last change back."""
        _, past, kept = self.state
        if not past:
            raise NothingToUndo()
        self.state = (past[-1], past[:-1], kept)
        return "ok"
