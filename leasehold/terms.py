"""The terms on which keepers let and holders hold."""

from leasehold.errors import BadTerms

MOST_STEP = 1000
MOST_LENGTH = 1000000
MOST_KEEPERS = 9


def refuse_bad_steps(low, high):
    if low < 1 or high > MOST_STEP:
        raise BadTerms(f"low {low} and high {high} must be 1 to {MOST_STEP}")
    if low > high:
        raise BadTerms(f"low {low} is above high {high}")


def refuse_bad_length(length):
    if length < 1 or length > MOST_LENGTH:
        raise BadTerms(f"length {length} must be 1 to {MOST_LENGTH}")


def refuse_bad_keepers(keepers):
    if keepers < 1 or keepers > MOST_KEEPERS:
        raise BadTerms(f"keepers {keepers} must be 1 to {MOST_KEEPERS}")


class Terms:
    def __init__(self, low, high, length, keepers):
        refuse_bad_steps(low, high)
        refuse_bad_length(length)
        refuse_bad_keepers(keepers)
        self.low = low
        self.high = high
        self.length = length
        self.keepers = keepers

    def ticks(self):
        # Rounded up: with one tick fewer the slowest clock has not yet gone on by the length.
        return (self.length + self.low - 1) // self.low

    def wait(self):
        # No clock goes on by this much in fewer ticks, so by then even the slowest has gone on by the length.
        return self.ticks() * self.high

    def most(self):
        return self.keepers // 2 + 1
