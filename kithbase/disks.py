"""The two files of a replica, and the switch for its power."""

from kithbase.errors import PowerOff
from kithbase.files import File


class Disks:
    """Two files that are written as long as there is power."""

    def __init__(self):
        self.files = [File(), File()]
        self.lit = True
        # The number of steps after which power fails, or None if no failure is set.
        self.left = None

    def check(self):
        """Checks that power is on."""
        if not self.lit:
            raise PowerOff("power is off")

    def fail_after(self, steps):
        """Lets power fail after so many further steps."""
        self.check()
        self.left = steps

    def write(self, index, data):
        """Appends bytes to one of the files."""
        self._use(self.files[index].write(data, self.left), len(data))

    def shorten(self, index, size):
        """Truncates one of the files to a size."""
        self._use(self.files[index].shorten(size, self.left), 1)

    def flush(self, index):
        """Flushes one of the files."""
        self._use(self.files[index].flush(self.left), 1)

    def _use(self, done, needed):
        """Counts the steps that were done, and lets power fail if more were needed."""
        if self.left is not None:
            self.left -= done
        if done < needed:
            self.lit = False
            raise PowerOff("power has failed")

    def lose(self, first, second):
        """Lets power fail if it has not yet, with so many pending steps of each file done, and turns it on again."""
        self.files[0].lose(first)
        self.files[1].lose(second)
        self.lit = True
        self.left = None
