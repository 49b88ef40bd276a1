"""Readings of one clock, which never go back."""

from leasehold.errors import Back


def gone_on(latest, clock):
    # Given back, not stored: who is shown a reading may still refuse for another cause, and then has not seen it.
    if clock < latest:
        raise Back(f"reading {clock} is less than {latest}, which was shown before")
    return clock
