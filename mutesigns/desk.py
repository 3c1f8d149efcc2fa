"""A desk that keeps books and sheets, is told lines, and can take back what it did."""

from mutesigns.checks import is_one_of
from mutesigns.desk_asks import answer_of
from mutesigns.desk_deeds import changed
from mutesigns.desk_lines import is_deed
from mutesigns.errors import BadLine, Nothing, SignError
from mutesigns.shelves import Shelf


class Desk:
    """A shelf, the story of the deed lines that led to it, the shelves on the way, and the lines taken back."""

    def __init__(self):
        self.shelf = Shelf()
        self.story = ()
        self._before = ()
        self._undone = ()

    def __call__(self, line):
        """The answer to a line, which is done if it is a deed line."""
        if not is_deed(line):
            return answer_of(self.shelf, line)
        answer = self._done(line)
        self._undone = ()
        return answer

    def _done(self, line):
        """Does a deed line, and leaves what was taken back."""
        shelf, answer = changed(self.shelf, line)
        self._before = (*self._before, self.shelf)
        self.story = (*self.story, line)
        self.shelf = shelf
        return answer

    def told(self, *lines):
        """The answers to the lines, all done or none; raises BadLine for the first that fails."""
        trial = self.twin()
        answers = []
        for number, line in enumerate(lines):
            try:
                answers.append(trial(line))
            except SignError as error:
                raise BadLine(number, error) from error
        self._become(trial)
        return tuple(answers)

    def tried(self, *lines):
        """The answers to the lines, as told; the desk stays as it is."""
        trial = self.twin()
        return trial.told(*lines)

    def undo(self):
        """Takes back the last line of the story, and returns it."""
        if not self.story:
            raise Nothing()
        line = self.story[-1]
        self.shelf = self._before[-1]
        self._before = self._before[:-1]
        self.story = self.story[:-1]
        self._undone = (*self._undone, line)
        return line

    def redo(self):
        """Does again the line that was taken back last, and returns it."""
        if not self._undone:
            raise Nothing()
        line = self._undone[-1]
        self._done(line)
        self._undone = self._undone[:-1]
        return line

    def twin(self):
        """A Desk that is in all as this one."""
        other = Desk()
        other._become(self)
        return other

    def _become(self, other):
        """Becomes in all as another desk, which nothing here ever changes: all that it has is fixed."""
        self.shelf = other.shelf
        self.story = other.story
        self._before = other._before
        self._undone = other._undone

    def __len__(self):
        return len(self.shelf.things)

    def __contains__(self, value):
        return is_one_of(value, self.shelf.names)

    def __eq__(self, other):
        return isinstance(other, Desk) and self.shelf == other.shelf
