"""Readers, which are led turn by turn and tell what is written by then."""

from leftroads.checks import check_machine
from leftroads.errors import HasEnded, InvalidTurn, NothingToUndo
from leftroads.forms import least_form
from leftroads.matrices import matrix_of


class Reader:
    """A road that is read turn by turn by the least form of a machine."""

    def __init__(self, machine):
        check_machine(machine)
        self._form = least_form(machine)
        self._read = ""
        self._states = [0]
        self._words = [self._form[0]]
        self._has_ended = False

    def __call__(self, turn):
        """Read a turn, and return what is written at it."""
        if turn not in ("L", "R"):
            raise InvalidTurn(turn)
        if self._has_ended:
            raise HasEnded(turn)
        word, state = self._form[1][self._states[-1]]["LR".find(turn)]
        self._read = self._read + turn
        self._states.append(state)
        self._words.append(word)
        return word

    def __eq__(self, other):
        return (
            isinstance(other, Reader) and self._form == other._form and self._read == other._read
            and self._has_ended == other._has_ended)

    def __len__(self):
        return len(self._read)

    def end(self):
        """End the road, and return what is written at that."""
        if self._has_ended:
            raise HasEnded(0)
        word = self._form[1][self._states[-1]][2]
        self._has_ended = True
        self._words.append(word)
        return word

    def written(self):
        """Return all that is written."""
        return "".join(self._words)

    def road(self):
        """Return all that was read."""
        return self._read

    def between(self):
        """Return the two fractions between which just the numbers of all roads lie that begin with what is written."""
        a, b, c, d = matrix_of(self.written())
        return ((b, d), None if c == 0 else (a, c))

    def undo(self):
        """Take back the last turn or the end."""
        if self._has_ended:
            self._has_ended = False
        elif self._read == "":
            raise NothingToUndo(0)
        else:
            self._read = self._read[:-1]
            self._states.pop()
        self._words.pop()
