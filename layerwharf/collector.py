"""The collector, which removes what no root needs, one step at a time."""

_IDLE = "idle"
_MARK = "mark"
_SWEEP = "sweep"


class Collector:
    """It goes in rounds over one store, and is idle between two rounds."""

    def __init__(self, store):
        self._store = store
        # The addresses that the phase has still to come to, the next one first.
        self._waiting = []
        self.phase = _IDLE
        self.marked = {}

    def step(self, roots):
        """Do one step and return its word; roots is used only by the first step of a round."""
        if self.phase == _IDLE:
            return self._begin(roots)
        if self.phase == _MARK:
            return self._mark_next() if self._waiting else self._turn()
        return self._sweep_next() if self._waiting else self._end()

    def shade(self, address):
        """Mark the closure of a whole blob at once; do nothing if the collector is idle."""
        if self.phase == _IDLE:
            return
        # The address may be marked already while what is below it still waits.
        for reached in self._store.closure(address):
            self.marked[reached] = True

    def stop(self):
        """Give the round up: the collector is idle, and nothing is marked."""
        self.phase = _IDLE
        self.marked = {}
        self._waiting = []

    def _begin(self, roots):
        self._waiting = list(roots)
        self.phase = _MARK
        return "begin"

    def _mark_next(self):
        address = self._waiting.pop(0)
        if address not in self.marked:
            self.marked[address] = True
            self._waiting.extend(self._references(address))
        return "mark"

    def _references(self, address):
        # A root need not be whole: then there may be no blob at the address.
        if self._store.blob(address) is None:
            return []
        return self._store.below(address)

    def _turn(self):
        self._waiting = [address for address in self._store.addresses() if address not in self.marked]
        self.phase = _SWEEP
        return "turn"

    def _sweep_next(self):
        address = self._waiting.pop(0)
        if address not in self.marked:
            self._store.remove_blob(address)
        return "sweep"

    def _end(self):
        # The marks belong to the round, so that they go with it.
        self.stop()
        return "end"
