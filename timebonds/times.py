"""Times that meet all bonds, and how early and how late deeds can be."""

from timebonds.search import chain_between, check_times, settle, shortest_chain, steps_of


def times_or_ring(count, bonds):
    """("times", times) that meet all bonds, with the first deed at nought, or ("ring", ring)."""
    return settle(count, steps_of(count, bonds))


def most_between(count, bonds, one, two):
    """The most that `two` can be later than `one`, with a chain of that length, a pair; None for no most."""
    return shortest_chain(count, steps_of(count, bonds), one, two)


def ranges(count, bonds):
    """For each deed the pair of its earliest and its latest time, each None where there is none."""
    steps = steps_of(count, bonds)
    check_times(count, steps)
    return [earliest_and_latest(count, steps, deed) for deed in range(count)]


def earliest_and_latest(count, steps, deed):
    """The pair for one deed, by steps that are known to have no ring."""
    earliest = None
    latest = None
    # So much can the first deed be later than this one: so much earlier can this one be than nought.
    back = chain_between(count, steps, deed, 0)
    if back is not None:
        earliest = -back[0]
    there = chain_between(count, steps, 0, deed)
    if there is not None:
        latest = there[0]
    return (earliest, latest)


def times_at(count, bonds, deed, time):
    """("times", times) with that deed at that time.

    Else the chain that rules it out: ("late", chain) where the time is too late, ("early", chain) where too early.
    """
    there = most_between(count, bonds, 0, deed)
    if there is not None and there[0] < time:
        return ("late", there[1])
    back = most_between(count, bonds, deed, 0)
    if back is not None and -back[0] > time:
        return ("early", back[1])
    return times_or_ring(count, bonds + [("by", 0, deed, time), ("after", 0, deed, time)])
