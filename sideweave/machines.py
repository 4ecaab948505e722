"""Machines: codes that run issue by issue, and that can go back."""

from sideweave.codes import started
from sideweave.errors import NoNumber, TooLong
from sideweave.weaves import is_index


class Machine:
    """A code that runs for a launch, issue by issue."""

    def __init__(self, kernel, code, launch):
        self._run = started(kernel, code, launch)
        self._outputs = kernel[0]
        self._marks = []

    def step(self):
        """Go on to the next issue and return it; return None if the code ends without one."""
        before = self._run.kept()
        try:
            return self._run.issue_next()
        except TooLong:
            self._run.bring_back(before)
            raise

    def masks(self):
        """Return a dict from the masks that are not empty to ascending tuples of their lanes."""
        found = {}
        for lane, mask in enumerate(self._run.mask_of):
            found[mask] = found.get(mask, ()) + (lane,)
        return found

    def registers(self, lane):
        """Return a dict from the names that a lane began with or has set to their numbers."""
        check_number(lane, len(self._run.mask_of))
        return dict(self._run.group.now[lane])

    def issues(self):
        """Return the list of all issues so far."""
        return list(self._run.group.issued)

    def ends(self):
        """Return the list of the lanes' ends, if the code ended now."""
        return self._run.group.ends(self._outputs)

    def mark(self):
        """Make a mark here, and return its number."""
        self._marks.append(self._run.kept())
        return len(self._marks) - 1

    def back(self, number):
        """Return to what was there when the mark with this number was made; it stands, later ones are gone."""
        check_number(number, len(self._marks))
        self._run.bring_back(self._marks[number])
        del self._marks[number + 1:]


def check_number(thing, many):
    """Raise NoNumber for what is no number from 0 to many - 1."""
    if not is_index(thing, many):
        raise NoNumber("there is no such number")
