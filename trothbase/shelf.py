"""The shelf of a house, whose records outlast losses of power once they are synced."""

from trothbase.errors import PowerOff


class Shelf:
    """Keeps records; those that were not synced may be lost with the power."""

    def __init__(self):
        self._lasting = []
        self._waiting = []
        self._is_on = True
        self._losses = 0
        self._left = None

    def records(self):
        """The list of all records that are there, waiting ones included."""
        return self._lasting + self._waiting

    def append(self, record):
        """Puts a record behind the others, where it waits."""
        self._operate()
        self._waiting.append(record)

    def sync(self):
        """Makes all waiting records last."""
        self._operate()
        self._lasting.extend(self._waiting)
        self._waiting = []

    def pending(self):
        """How many records wait."""
        return len(self._waiting)

    def fail_after(self, operations):
        """Makes power fail at the operation behind so many others."""
        self._need_power()
        self._left = operations

    def power(self, kept):
        """Power fails, if it has not yet, and comes back; the first waiting records arrive."""
        if self._is_on:
            self._fail()
        arrived = max(0, kept)
        self._lasting.extend(self._waiting[:arrived])
        self._waiting = []
        self._is_on = True

    def is_on(self):
        """Whether power is on."""
        return self._is_on

    def losses(self):
        """How often power failed."""
        return self._losses

    def _need_power(self):
        if not self._is_on:
            raise PowerOff("power is off")

    def _operate(self):
        self._need_power()
        if self._left is None:
            return
        if self._left <= 0:
            self._fail()
            raise PowerOff("power fails")
        self._left -= 1

    def _fail(self):
        self._is_on = False
        self._losses += 1
        self._left = None
