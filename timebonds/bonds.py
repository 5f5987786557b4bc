"""Deeds, bonds, and whether times meet them."""

from timebonds.errors import NoDeed


def check_deed(count, deed):
    """Refuse a deed that there isn't."""
    if deed < 0 or deed >= count:
        raise NoDeed("there is no such deed")


def check_bonds(count, bonds):
    """Refuse bonds if one of them, wherever it stands, has a deed that there isn't."""
    for bond in bonds:
        check_deed(count, bond[1])
        check_deed(count, bond[2])


def meets(times, bond):
    """Whether the bond holds for these times."""
    mark = times[bond[1]] + bond[3]
    if bond[0] == "after":
        return times[bond[2]] >= mark
    return times[bond[2]] <= mark


def first_unmet(count, bonds, times):
    """The place of the first bond that the times don't meet, None for none."""
    # All bonds are checked ahead of any answer: a deed that there isn't may stand behind an unmet bond.
    check_bonds(count, bonds)
    for place, bond in enumerate(bonds):
        if not meets(times, bond):
            return place
    return None
