"""Watches: what is known of a machine while it is seen reading and writing."""

from whichstand.checks import check_stands, is_below
from whichstand.errors import BadLetter, Full, NoStand
from whichstand.machines import WRITTEN_LETTERS

MOST_SEEN = 40


class Watch:
    """A watch over a machine that can be in some stands at first."""

    def __init__(self, machine, stands):
        check_stands(machine, stands)
        self._machine = machine
        self._stands = stands
        # Each that is possible is a first stand and the stand to which it has led. A list of these is never
        # changed, only replaced, so a copy may hold the same one.
        self._possible = [(stand, stand) for stand in stands]
        self._earlier = []

    def __len__(self):
        return len(self._earlier)

    @property
    def machine(self):
        """The machine that is watched."""
        return self._machine

    def see(self, letter, written):
        """See a letter read and a letter written; return the list of the stands in which the machine can be."""
        if not is_below(letter, self._machine.letters) or not is_below(written, WRITTEN_LETTERS):
            raise BadLetter("no letter that is read, or none that is written")
        if len(self._earlier) == MOST_SEEN:
            raise Full("no more letters can be seen")
        reached = self._led(letter, written)
        if not reached:
            raise NoStand("no possible stand writes that")
        self._earlier.append(self._possible)
        self._possible = reached
        return self.lasts()

    def lasts(self):
        """Return the ascending list of the stands in which the machine can be."""
        return sorted({at for _, at in self._possible})

    def firsts(self):
        """Return the ascending list of the stands in which the machine can have begun."""
        return [first for first, _ in self._possible]

    def can_read(self):
        """Return the ascending list of the letters that the machine can read wherever it can be."""
        rows = [self._machine.table[at] for at in self.lasts()]
        return [letter for letter in range(self._machine.letters) if None not in [row[letter] for row in rows]]

    def undo(self):
        """Take the last letter back; return whether there was one."""
        if not self._earlier:
            return False
        self._possible = self._earlier.pop()
        return True

    def copy(self):
        """Return an independent watch that stands as this one."""
        twin = Watch(self._machine, self._stands)
        twin._possible = self._possible
        twin._earlier = list(self._earlier)
        return twin

    def _led(self, letter, written):
        reached = []
        for first, at in self._possible:
            step = self._machine.table[at][letter]
            if step is not None and step[1] == written:
                reached.append((first, step[0]))
        return reached
