"""What the tests share: the document's words, told a second time and as plainly as can be, to hold the program's
answers against, and bonds to try."""

import itertools
import random

# The largest number of thirty-two figures.
BIG = 10 ** 32 - 1


def holds(bond, times):
    """Point 2: whether a bond holds for times."""
    kind, one, two, number = bond
    if kind == "after":
        return times[two] - times[one] >= number
    if kind == "by":
        return times[two] - times[one] <= number
    raise AssertionError(f"no bond: {bond!r}")


def are_times(count, bonds, times):
    """Points 3 and 6: whether these are times for each deed that meet all bonds, with the first deed at nought."""
    if type(times) is not list or [type(time) for time in times] != [int] * count:
        return False
    return times[0] == 0 and all(holds(bond, times) for bond in bonds)


def leads(bond):
    """Point 4: from where a bond leads, to where, and what it says."""
    kind, one, two, number = bond
    return {"by": (one, two, number), "after": (two, one, -number)}[kind]


def follow(bonds, chain, begin):
    """Point 4: the deed at which a chain from `begin` ends, and its length; fails where the chain is none."""
    deed = begin
    length = 0
    for place in chain:
        if not 0 <= place < len(bonds):
            raise AssertionError(f"place {place} is not among {len(bonds)} bonds")
        start, end, number = leads(bonds[place])
        if start != deed:
            raise AssertionError(f"bond {place} of {chain} leads from {start}, not from {deed}")
        deed = end
        length += number
    return deed, length


def is_ring(bonds, ring):
    """Point 5: whether a list of places is a ring."""
    if type(ring) is not list or not ring:
        return False
    begin = leads(bonds[ring[0]])[0]
    end, length = follow(bonds, ring, begin)
    return end == begin and length < 0


def least_lengths(count, bonds):
    """The least length of a chain from each deed to each, None for none; below nought at [d][d] for a ring at d."""
    least = [[0 if one == two else None for two in range(count)] for one in range(count)]
    for bond in bonds:
        one, two, number = leads(bond)
        if least[one][two] is None or number < least[one][two]:
            least[one][two] = number
    for middle in range(count):
        for one in range(count):
            for two in range(count):
                if least[one][middle] is None or least[middle][two] is None:
                    continue
                length = least[one][middle] + least[middle][two]
                if least[one][two] is None or length < least[one][two]:
                    least[one][two] = length
    return least


def has_ring(count, bonds):
    least = least_lengths(count, bonds)
    return any(least[deed][deed] < 0 for deed in range(count))


def some_bonds(chance, count, size, reach):
    """Bonds as the dice fall: with rings or without."""
    return [
        (chance.choice(("after", "by")), chance.randrange(count), chance.randrange(count),
         chance.randint(-reach, reach))
        for place in range(size)
    ]


def bonds_around(chance, times, size, room):
    """Bonds that the times meet, with at most so much room."""
    bonds = []
    for place in range(size):
        kind, one, two = chance.choice(("after", "by")), chance.randrange(len(times)), chance.randrange(len(times))
        spare = chance.randint(0, room)
        bonds.append((kind, one, two, times[two] - times[one] + (spare if kind == "by" else -spare)))
    return bonds


def small_pairs():
    """A count of deeds and bonds: every pair of small bonds of two deeds."""
    bonds = list(itertools.product(("after", "by"), (0, 1), (0, 1), (-1, 0, 1)))
    for pair in itertools.product(bonds, repeat=2):
        yield 2, list(pair)


def few_bonds(seed, turns):
    """A count of deeds and bonds, few of each, as often as asked: with rings, without, or with hardly any room."""
    chance = random.Random(seed)
    for turn in range(turns):
        count = chance.randint(1, 5)
        yield count, some_bonds(chance, count, chance.randint(0, 8), chance.choice((1, 3, 9)))
        times = [chance.randint(-9, 9) for deed in range(count)]
        yield count, bonds_around(chance, times, chance.randint(0, 12), chance.choice((0, 1, 4)))


def most_bonds(seed):
    """A count of deeds and bonds, as many of each as point 1 lets there be, with numbers of up to thirty-two figures:
    first with no room, then with some, then with a ring."""
    chance = random.Random(seed)
    for room in (0, 3, BIG // 2):
        times = [chance.randint(-BIG, BIG) // 4 for deed in range(30)]
        yield 30, bonds_around(chance, times, 100, room)
    ring = bonds_around(chance, times, 98, BIG // 2)
    ring.insert(chance.randrange(99), ("after", 28, 29, BIG))
    ring.insert(chance.randrange(100), ("by", 28, 29, BIG - 1))
    yield 30, ring


class ManyCases:
    """Beside a TestCase with a `check_everything(count, bonds)`: tries it with many bonds."""

    def check_each(self, cases):
        for count, bonds in cases:
            with self.subTest(count=count, bonds=bonds):
                self.check_everything(count, bonds)

    def test_every_pair_of_small_bonds_of_two_deeds(self):
        self.check_each(small_pairs())

    def test_few_bonds_as_the_dice_fall(self):
        self.check_each(few_bonds(1, 400))

    def test_thirty_deeds_a_hundred_bonds_and_thirty_two_figures(self):
        self.check_each(most_bonds(2))
