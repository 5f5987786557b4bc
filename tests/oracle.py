"""The document's words, told a second time and as plainly as can be, to hold the program's answers against."""


def holds(bond, times):
    """Point 2: whether a bond holds for times."""
    kind, one, two, number = bond
    if kind == "after":
        return times[two] - times[one] >= number
    if kind == "by":
        return times[two] - times[one] <= number
    raise AssertionError(f"no bond: {bond!r}")


def leads(bond):
    """Point 4: from where a bond leads, to where, and what it says."""
    kind, one, two, number = bond
    return {"by": (one, two, number), "after": (two, one, -number)}[kind]


def follow(bonds, chain, begin):
    """Point 4: the deed at which a chain from `begin` ends, and its length; fails where the chain is none."""
    deed = begin
    length = 0
    for place in chain:
        if not 0 <= place < len(bonds):
            raise AssertionError(f"place {place} is not among {len(bonds)} bonds")
        start, end, number = leads(bonds[place])
        if start != deed:
            raise AssertionError(f"bond {place} of {chain} leads from {start}, not from {deed}")
        deed = end
        length += number
    return deed, length


def is_ring(bonds, ring):
    """Point 5: whether a list of places is a ring."""
    if not ring:
        return False
    begin = leads(bonds[ring[0]])[0]
    end, length = follow(bonds, ring, begin)
    return end == begin and length < 0


def least_lengths(count, bonds):
    """The least length of a chain from each deed to each, None for none; below nought at [d][d] for a ring at d."""
    least = [[0 if one == two else None for two in range(count)] for one in range(count)]
    for bond in bonds:
        one, two, number = leads(bond)
        if least[one][two] is None or number < least[one][two]:
            least[one][two] = number
    for middle in range(count):
        for one in range(count):
            for two in range(count):
                if least[one][middle] is None or least[middle][two] is None:
                    continue
                length = least[one][middle] + least[middle][two]
                if least[one][two] is None or length < least[one][two]:
                    least[one][two] = length
    return least


def has_ring(count, bonds):
    least = least_lengths(count, bonds)
    return any(least[deed][deed] < 0 for deed in range(count))
