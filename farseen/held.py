"""The pictures of an album, held against one another."""

from farseen.across import lines_of, square_of
from farseen.kin import groups
from farseen.planes import joined_rank
from farseen.threes import c_of_three, chart_of_three


class Held:
    """What each two and three pictures of unlike groups tell, reckoned once."""

    def __init__(self, album):
        self.pictures = album.pictures
        self.lots = self.lots_in(album)
        self.firsts = [lot[0] for lot in self.lots]
        self.by_two, self.by_three = {}, {}

    def lots_in(self, album):
        """The lots of pictures that tell the same."""
        return groups(album)

    def is_amiss(self, lot):
        """Whether these pictures, no two of them kin, are none's, if no shorter lot of them is."""
        if len(lot) == 1:
            return self.pictures[lot[0]].is_thin()
        if len(lot) == 2:
            return self.axis_of(lot) is None
        if len(lot) == 3:
            return self.c_by(lot) is None
        # The fourth picture is one of the chart of the first three exactly if it tells the same c.
        return self.c_by(lot[:3]) != self.c_by(lot[:2] + lot[3:])

    def axis_of(self, lot):
        """The directions of the axis of two pictures that are not thin, None if no body has both."""
        if lot not in self.by_two:
            _, both = joined_rank(self.pictures[lot[0]].rows, self.pictures[lot[1]].rows)
            self.by_two[lot] = None if both is None else self.axis_by(both[:2], both[2:])
        return self.by_two[lot]

    def axis_by(self, mine, its):
        """Both directions of an axis, None if no body has pictures with these."""
        return (mine, its) if square_of(mine) == square_of(its) else None

    def axes_of(self, lot):
        """The directions of the three axes of three pictures."""
        one, other, third = lot
        return [self.axis_of(two) for two in ((one, other), (one, third), (other, third))]

    def c_by(self, lot):
        """The c of the first two of three pictures, None if no body has the three."""
        if lot not in self.by_three:
            self.by_three[lot] = self.c_between([self.pictures[number] for number in lot], self.axes_of(lot))
        return self.by_three[lot]

    def c_between(self, pictures, axes):
        """The c of the first two of three pictures with these axes, None if no body has the three."""
        return c_of_three(pictures, axes)

    def lines_by(self, lot):
        """The square of the axis of two pictures that a body has, and the rows along and across."""
        both = self.axis_of(lot)
        return (square_of(both[0]), lines_of(self.pictures[lot[0]], self.pictures[lot[1]], both))

    def chart_of(self, lot):
        """The one chart of three pictures that a body has."""
        return chart_of_three([self.pictures[number] for number in lot], self.axes_of(lot))
