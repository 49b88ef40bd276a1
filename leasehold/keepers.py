"""Keepers: each lets to one name at a time, for a while by its own clock."""

from leasehold.readings import gone_on


class Keeper:
    def __init__(self, terms, clock):
        # The number alone, so that nothing that is handed in is kept.
        self.pause = terms.wait()
        self.latest = clock
        # One that is new may have forgotten to whom it let: it refuses every name till that must be over.
        self.name = None
        self.number = None
        self.over = clock + self.pause

    def asked(self, clock, name, number):
        self.latest = gone_on(self.latest, clock)
        if clock < self.over:
            if name != self.name or number < self.number:
                return False
            if number == self.number:
                # An ask that comes twice must not put off the end: the holder counts from when it asked.
                return True
        self.name = name
        self.number = number
        self.over = clock + self.pause
        return True

    def freed(self, clock, name, number):
        self.latest = gone_on(self.latest, clock)
        # A number that is too small is of a free that came late: the holder has asked anew since.
        if name == self.name and number >= self.number:
            self.over = clock

    def let_to(self, clock):
        self.latest = gone_on(self.latest, clock)
        return self.name if clock < self.over else None
