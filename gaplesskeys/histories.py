"""The history of one machine of a run."""


class History:
    """What one machine holds from its beginning on, and when it can be used."""

    def __init__(self, kind_name, gap, begun, edition, is_copy):
        self.kind_name = kind_name
        self.is_copy = is_copy
        # A tuple (moment, held, read) when it is locked out.
        self.locked = None
        self._gap = gap
        # What it holds from each moment on at which it began or pulled, None
        # when it is locked out.
        self._steps = [(begun, edition)]

    def pull(self, plan, moment, read):
        """Reads an edition at a later moment, and takes it, keeps its own or is locked out."""
        held = self._steps[-1][1]
        if held is not None and read > held:
            if plan.contents_of(held).takes(plan.contents_of(read)):
                held = read
            else:
                self.locked = (moment, held, read)
                held = None
        self._steps.append((moment, held))

    def has_pulled_by(self, moment):
        """Whether it has pulled at a moment or earlier."""
        return len(self._steps) > 1 and self._steps[1][0] <= moment

    def edition_at(self, moment):
        """The number of the edition that it holds at a moment, None if it cannot be used."""
        if moment >= self._steps[-1][0] + self._gap:
            return None
        found = None
        for since, held in self._steps:
            if since <= moment:
                found = held
        return found
