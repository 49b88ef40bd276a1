"""Holders: each asks keepers, and knows by its own clock how long most of them let to it."""

from leasehold.errors import NoKeeper, NotAsked
from leasehold.readings import gone_on


class Holder:
    def __init__(self, terms, name, life, clock):
        # The numbers alone, so that nothing that is handed in is kept.
        self.length = terms.length
        self.needed = terms.most()
        self.name = name
        self.life = life
        self.latest = clock
        # How many numbers it told, and for those that still count, by their second part, the reading of the ask.
        self.told = 0
        self.asks = {}
        # For each keeper the reading with which it lets no more; that of now says that it does not let.
        self.ends = [clock] * terms.keepers

    def ask(self, clock):
        self.latest = gone_on(self.latest, clock)
        self.forget_over(clock)
        number = (self.life, self.told)
        self.asks[self.told] = clock
        self.told += 1
        return number

    def forget_over(self, clock):
        # To hear of these changes nothing any more, and who asks for ever must not grow for ever.
        oldest = self.told - len(self.asks)
        while oldest < self.told and self.asks[oldest] + self.length <= clock:
            self.asks.pop(oldest)
            oldest += 1

    def hear(self, clock, keeper, number):
        if keeper < 0 or keeper >= len(self.ends):
            raise NoKeeper(f"there is no keeper {keeper}")
        self.latest = gone_on(self.latest, clock)
        if number[0] == self.life and number[1] in self.asks:
            # From when it asked, not from now: the keeper may have let long before this was heard.
            self.ends[keeper] = max(self.ends[keeper], self.asks[number[1]] + self.length)

    def holds(self, clock):
        return self.until(clock) is not None

    def until(self, clock):
        self.latest = gone_on(self.latest, clock)
        # As many as are needed last till here; from here on, fewer do.
        end = sorted(self.ends, reverse=True)[self.needed - 1]
        return end if clock < end else None

    def free(self, clock):
        latest = gone_on(self.latest, clock)
        if self.told == 0:
            raise NotAsked("nothing was asked for in this life")
        self.latest = latest
        self.asks = {}
        self.ends = [clock] * len(self.ends)
        return (self.life, self.told - 1)
