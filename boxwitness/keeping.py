"""A choice that is kept while its groups change (point 13)."""

from boxwitness.checking import first_wrong
from boxwitness.choices import check_all, group_can_be
from boxwitness.errors import BadChoice
from boxwitness.kinds import is_number
from boxwitness.papers import parts_of


class Witness:
    """A program, a frame, and a choice whose groups may be changed."""

    def __init__(self, program, frame, choice):
        check_all(program, frame, choice)
        self.program = program
        self.frame = frame
        self.places = choice[0]
        self.groups = list(choice[1])

    def change(self, number, group):
        """Put another group in the row's place."""
        if not is_number(number, 0, len(self.groups) - 1):
            raise BadChoice(number)
        if not group_can_be(self.program[2][number], self.frame, group):
            raise BadChoice(number)
        self.groups[number] = group

    def choice(self):
        """Tell the choice now."""
        return self.places, tuple(self.groups)

    def paper(self):
        """Tell what paper tells of the choice now."""
        return parts_of(self.program, self.frame, self.choice())

    def verdict(self):
        """Tell what checked tells of the choice now."""
        return first_wrong(self.program, self.frame, self.choice())
