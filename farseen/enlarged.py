"""The pictures of an album, each enlarged by an untold size, held against one another."""

from farseen.charts import Chart
from farseen.checks import primitive
from farseen.held import Held
from farseen.lots import grouped
from farseen.scales import flat_products
from farseen.threes import c_of_three, ring_of


def sized_groups(album):
    """The lots of pictures that are kin but for their sizes, by their first ones."""
    return grouped([primitive(flat_products(picture)) for picture in album.pictures])


def c_with_sizes(pictures, axes):
    """The c of the first two of three pictures with these axes, None if no body has the three with sizes."""
    # At a hinge the scales fit by themselves.
    return c_of_three(pictures, axes) if ring_of(axes) == (1, 1) else None


class HeldSizes(Held):
    """What each two and three pictures of unlike groups tell, if each may be enlarged."""

    def lots_in(self, album):
        """The lots of pictures that tell the same but for their sizes."""
        return sized_groups(album)

    def axis_by(self, mine, its):
        """Both directions of an axis, whatever their squares."""
        return (mine, its)

    def c_between(self, pictures, axes):
        """The c of the first two of three pictures with these axes, None if no body has the three with sizes."""
        return c_with_sizes(pictures, axes)


def enlarged(chart, square):
    """The chart, so many times: that of a body as much larger."""
    number, by = square
    return Chart([[number * its for its in row] for row in chart.rows], chart.by * by)
