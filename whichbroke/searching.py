"""A search: looks at a work that are taken one by one, and where to look next."""

from whichbroke.errors import BadLook, NoLook
from whichbroke.leastsets import least_sets
from whichbroke.rooms import shown
from whichbroke.works import is_pair, is_whole, need_look, need_work


def load_of(work, look, sets, line):
    """The greatest number of the sets that may show one and the same digit on a line at a look."""
    counts = [0] * work[0]
    for broken in sets:
        for digit in shown(work, look, broken, line):
            counts[digit] += 1
    return max(counts)


class Search:
    """A search in a work, which begins without looks."""

    def __init__(self, work):
        need_work(work)
        ring, inputs, parts = work
        # The list that was handed in may be changed behind the making: the search has its own.
        self._work = (ring, inputs, list(parts))
        self._looks = []

    def _need_number(self, thing):
        """Refuse what is no number of a look."""
        if not is_whole(thing, 0, len(self._looks) - 1):
            raise NoLook("no number of a look")

    def look(self, given, seen):
        """Take one look more."""
        need_look(self._work, (given, seen))
        self._looks.append((given, seen))

    def see(self, number, line, digit):
        """See a line more at the look of this number."""
        self._need_number(number)
        given, seen = self._looks[number]
        if not is_pair(self._work, (line, digit)) or line in [pair[0] for pair in seen]:
            raise BadLook("no line that is still to be seen there, or no digit")
        self._looks[number] = (given, tuple(sorted([*seen, (line, digit)])))

    def back(self):
        """Take the last look back, with all lines seen at it, and tell it."""
        if len(self._looks) == 0:
            raise NoLook("no look to take back")
        return self._looks.pop()

    def looks(self):
        """The looks so far, with all lines seen."""
        return list(self._looks)

    def sets(self):
        """The least sets of the looks so far, in order."""
        return least_sets(self._work, self._looks)

    def next_line(self, number):
        """The first line of a part that has the least load at the look of this number, and its load."""
        self._need_number(number)
        _, inputs, parts = self._work
        sets = self.sets()
        loads = []
        for line in range(inputs, inputs + len(parts)):
            loads.append((load_of(self._work, self._looks[number], sets, line), line))
        load, line = min(loads)
        return (line, load)
