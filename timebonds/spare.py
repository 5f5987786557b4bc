"""Which bonds the others give already, and the fewest that all follow from."""

from timebonds.search import Step, chain_between, check_times, settle, steps_of


def spares(count, bonds):
    """For each bond ("spare", chain), a chain of others that gives it, or ("needed", times) that lack it alone."""
    steps = steps_of(count, bonds)
    check_times(count, steps)
    return [spare_or_needed(count, all_but(steps, step), step) for step in steps]


def fewest(count, bonds):
    """The places, rising, of the bonds that are left when spare ones are left out, from the last to the first."""
    steps = steps_of(count, bonds)
    check_times(count, steps)
    left = steps
    for step in reversed(steps):
        others = all_but(left, step)
        if chain_instead(count, others, step) is not None:
            left = others
    return [needed.place for needed in left]


def all_but(steps, left_out):
    """The steps without that one; another one that says the same stays."""
    return [step for step in steps if step.place != left_out.place]


def spare_or_needed(count, others, step):
    """What `spares` tells of one step, by the others."""
    chain = chain_instead(count, others, step)
    if chain is not None:
        return ("spare", chain)
    # The others hold the step's end back less than the step does, so with them it can come at least one later.
    contrary = Step(None, ("after", step.begin, step.end, step.most + 1))
    return ("needed", settle(count, others + [contrary])[1])


def chain_instead(count, others, step):
    """A chain of others that leads as the step does and is no longer, None for none."""
    found = chain_between(count, others, step.begin, step.end)
    if found is None or found[0] > step.most:
        return None
    return found[1]
