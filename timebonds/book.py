"""A book of bonds that come and go."""

from timebonds.bonds import check_bonds
from timebonds.errors import NoBond
from timebonds.search import Step, settle, shortest_chain


class Book:
    """Bonds by their numbers, which can always be met together."""

    def __init__(self, deeds):
        self.deeds = deeds
        self.numbered = 0
        # A step's place is its bond's number here, so the search tells chains and rings by these numbers.
        self.steps = {}

    def add(self, bond):
        """Take the bond in and give back its number; or leave it out and give back a ring, told by numbers.

        NoDeed where it has a deed that there isn't: then it gets no number.
        """
        check_bonds(self.deeds, [bond])
        step = Step(self.numbered, bond)
        self.numbered = self.numbered + 1
        # Those that are there have no ring, so any ring has the new one in it.
        answer = settle(self.deeds, self.present() + [step])
        if answer[0] == "ring":
            return answer[1]
        self.steps[step.place] = step
        return step.place

    def drop(self, number):
        """Let the bond with that number go; NoBond where it isn't there."""
        if number not in self.steps:
            raise NoBond("there is no such bond")
        self.steps.pop(number)

    def some_times(self):
        """Times that meet all bonds that are there, the first deed at nought."""
        return settle(self.deeds, self.present())[1]

    def most_later(self, one, two):
        """The most that `two` can be later than `one`, with a chain told by numbers, a pair; None for no most.

        NoDeed where one of them isn't there.
        """
        return shortest_chain(self.deeds, self.present(), one, two)

    def present(self):
        """The steps of the bonds that are there, in the order of their numbers."""
        return list(self.steps.values())
