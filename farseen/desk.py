"""The desk: it is told lines, answers them, and can take back what was done."""

from farseen.checks import is_name
from farseen.desk_asks import answer_of
from farseen.desk_deeds import changed
from farseen.desk_lines import ASKS, first_item
from farseen.errors import BadDesk, BadLine, Nothing, SeenError
from farseen.shelves import Shelf


class Desk:
    """A shelf, the story of the deed lines that made it, and those that can be done again."""

    def __init__(self):
        self.shelf = Shelf()
        self.story = ()
        # The shelves behind the lines of the story but the last one, that of no line first.
        self.earlier = ()
        # What was taken back and can be done again, the next one last: pairs of a line and the shelf behind it.
        self.undone = ()

    def __eq__(self, other):
        return isinstance(other, Desk) and self.shelf == other.shelf

    def __len__(self):
        return len(self.shelf.things)

    def __contains__(self, value):
        return is_name(value) and value in self.shelf.names

    def __call__(self, line):
        """Does a deed line or answers an ask line."""
        if first_item(line) in ASKS:
            return answer_of(self.shelf, line)
        later, answer = changed(self.shelf, line)
        self._go_on(line, later)
        self.undone = ()
        return answer

    def _go_on(self, line, later):
        self.earlier = self.earlier + (self.shelf,)
        self.story = self.story + (line,)
        self.shelf = later

    def told(self, *lines):
        """The answers to all lines; if one of them raises an error nothing is done."""
        trial = self.twin()
        answers = trial.tried_on(lines)
        self._become(trial)
        return answers

    def tried(self, *lines):
        """The answers to all lines; the desk stays."""
        return self.twin().tried_on(lines)

    def tried_on(self, lines):
        """The answers to all lines, one behind another; the desk is changed until one raises an error."""
        answers = []
        for index, line in enumerate(lines):
            try:
                answers.append(self(line))
            except SeenError as error:
                raise BadLine(index, error)
        return tuple(answers)

    def undo(self):
        """Takes back the last line of the story."""
        if not self.story:
            raise Nothing()
        line = self.story[-1]
        self.undone = self.undone + ((line, self.shelf),)
        self.shelf = self.earlier[-1]
        self.story, self.earlier = self.story[:-1], self.earlier[:-1]
        return line

    def redo(self):
        """Does again the line that was taken back last."""
        if not self.undone:
            raise Nothing()
        line, later = self.undone[-1]
        self.undone = self.undone[:-1]
        self._go_on(line, later)
        return line

    def twin(self):
        """A desk that is in all as this one."""
        other = Desk()
        other._become(self)
        return other

    def _become(self, other):
        self.shelf, self.story = other.shelf, other.story
        self.earlier, self.undone = other.earlier, other.undone


def check_desk(value, part):
    """Raise BadDesk with this part unless the value is a Desk."""
    if not isinstance(value, Desk):
        raise BadDesk(part)
