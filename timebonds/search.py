"""The search for chains and rings.

It goes by steps, not by bonds: a step keeps its bond's place, so that a search
among some of the bonds still tells chains by their places among all of them.
"""

from timebonds.bonds import check_bonds, check_deed
from timebonds.errors import NoTimes


class Step:
    """A bond as it leads: from `begin` to `end`, which can be later by `most` at the most."""

    def __init__(self, place, bond):
        self.place = place
        if bond[0] == "by":
            self.begin = bond[1]
            self.end = bond[2]
            self.most = bond[3]
        else:
            self.begin = bond[2]
            self.end = bond[1]
            self.most = -bond[3]


def steps_of(count, bonds):
    """The steps of all bonds, in their order; NoDeed where a bond has a deed that there isn't."""
    check_bonds(count, bonds)
    return [Step(place, bond) for place, bond in enumerate(bonds)]


def settle(count, steps):
    """("times", times) that meet all steps, with the first deed at nought, or ("ring", ring)."""
    # Every deed begins at nought, so that a ring is found wherever it lies.
    least = [0] * count
    last = [None] * count
    deed = shorten_all(steps, least, last)
    if deed is None:
        return ("times", [length - least[0] for length in least])
    return ("ring", ring_behind(last, deed))


def check_times(count, steps):
    """Refuse steps that no times meet, wherever their ring lies."""
    if settle(count, steps)[0] == "ring":
        raise NoTimes("no times meet all bonds")


def shortest_chain(count, steps, one, two):
    """The least length of a chain from `one` to `two` and such a chain, a pair; None where none leads there.

    Deeds that there aren't are refused with NoDeed; then a ring, wherever it lies, with NoTimes.
    """
    check_deed(count, one)
    check_deed(count, two)
    check_times(count, steps)
    return chain_between(count, steps, one, two)


def chain_between(count, steps, one, two):
    """As shortest_chain tells, for deeds that there are and steps that are known to have no ring."""
    least = [None] * count
    least[one] = 0
    last = [None] * count
    shorten_all(steps, least, last)
    if least[two] is None:
        return None
    return (least[two], chain_behind(last, two))


def shorten_all(steps, least, last):
    """Go round the steps until no length gets less: None; or a deed whose length still gets less, by a ring."""
    # A chain without a ring needs fewer steps than there are deeds, so the last round shortens only by a ring.
    deed = None
    for turn in range(len(least)):
        deed = shorten_once(steps, least, last)
        if deed is None:
            return None
    return deed


def shorten_once(steps, least, last):
    """Try each step once: note lengths that get less in `least`, and by which step in `last`.

    Gives back the deed that was shortened last, None for none.
    """
    deed = None
    for step in steps:
        if least[step.begin] is None:
            continue
        length = least[step.begin] + step.most
        if least[step.end] is None or length < least[step.end]:
            least[step.end] = length
            last[step.end] = step
            deed = step.end
    return deed


def chain_behind(last, deed):
    """The chain of noted steps that ends at the deed, back to where the search began."""
    chain = []
    while last[deed] is not None:
        chain.append(last[deed].place)
        deed = last[deed].begin
    chain.reverse()
    return chain


def ring_behind(last, deed):
    """The ring of noted steps that shortened the deed even in the last round."""
    # The deed may lie off the ring; as many steps back as there are deeds lead into it for sure.
    for turn in range(len(last)):
        deed = last[deed].begin
    step = last[deed]
    ring = [step.place]
    while step.begin != deed:
        step = last[step.begin]
        ring.append(step.place)
    ring.reverse()
    return ring
