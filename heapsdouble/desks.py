"""A desk: heaps that steps are made with, and taken back."""

from heapsdouble.checks import check_heaps, check_step
from heapsdouble.errors import Full
from heapsdouble.moves import behind

MOST_STEPS = 100


class Desk:
    """Heaps, and the steps by which they came to be."""

    def __init__(self, heaps):
        check_heaps(heaps)
        # Those from the start and behind each step: the last ones are those that stand.
        self._stands = [heaps]
        self._steps = []

    @property
    def heaps(self):
        """The heaps as they stand."""
        return self._stands[-1]

    @property
    def plan(self):
        """The plan of all steps that were made."""
        return tuple(self._steps)

    def move(self, one, other):
        """Make a step, and return how many go over."""
        step = (one, other)
        stand = self._stands[-1]
        check_step(stand, step)
        if len(self._steps) >= MOST_STEPS:
            raise Full()
        self._stands.append(behind(stand, step))
        self._steps.append(step)
        return stand[other]

    def empties(self):
        """Return the number of empty heaps."""
        return self._stands[-1].count(0)

    def undo(self):
        """Take the last step back, and return whether there was one."""
        if len(self._steps) == 0:
            return False
        self._stands.pop()
        self._steps.pop()
        return True

    def copy(self):
        """Return an independent desk that stands as this one."""
        # From the start, since heaps behind steps may be greater than those that a desk begins with.
        twin = Desk(self._stands[0])
        for one, other in self.plan:
            twin.move(one, other)
        return twin

    def __len__(self):
        return len(self._steps)
