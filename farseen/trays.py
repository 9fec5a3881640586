"""Trays: rows of places, as a flat tray is seen from its edge."""

from farseen.checks import is_list
from farseen.errors import BadTray, Misfit, TooMany
from farseen.guards import check_order, check_picture_numbers
from farseen.lots import grouped
from farseen.places import is_row
from farseen.texts import items_of, row_at

FEWEST_PINS = 3
MOST_PINS = 7
MOST_ROWS = 8


def _is_tray_row(value):
    return is_row(value, FEWEST_PINS, MOST_PINS)


class Tray:
    """1 to 8 rows: from left to right the places of 3 to 7 pins."""

    def __init__(self, rows):
        if not is_list(rows) or not rows or not all([_is_tray_row(row) for row in rows]):
            raise BadTray("rows")
        self.pins = len(rows[0])
        if any([len(row) != self.pins for row in rows]):
            raise Misfit("pins")
        if len(rows) > MOST_ROWS:
            raise TooMany("rows", MOST_ROWS)
        self.places = tuple([tuple(row) for row in rows])
        self.rows = tuple([tuple([place - row[0] for place in row[1:]]) for row in self.places])

    def __len__(self):
        return len(self.places)

    def __eq__(self, other):
        return isinstance(other, Tray) and self.places == other.places

    def __str__(self):
        return " / ".join([" ".join([str(place) for place in row]) for row in self.places])

    @staticmethod
    def read(text):
        """The tray whose text this is."""
        items = items_of(text)
        row, at = row_at(items, 0, FEWEST_PINS, MOST_PINS, ("/",))
        rows, many = [row], len(row)
        while at < len(items):
            ends = ("/",) if len(rows) + 1 < MOST_ROWS else ()
            row, at = row_at(items, at + 1, many, many, ends)
            rows.append(row)
        return Tray(rows)

    def with_row(self, places):
        """With this row behind the others."""
        if not _is_tray_row(places):
            raise BadTray("places")
        return Tray(self.places + (places,))

    def picked(self, numbers):
        """The rows with these numbers, in the order told."""
        check_picture_numbers(numbers, len(self.places))
        return Tray([self.places[number] for number in numbers])

    def in_order(self, pins):
        """All pins of each row, the first told as 0 and so on."""
        check_order(pins, self.pins)
        return Tray([[row[pin] for pin in pins] for row in self.places])

    def kin_rows(self):
        """The lots of rows that are kin, by their first ones."""
        return grouped([_either_way(row) for row in self.rows])


def tray_row_at(items, at):
    """The tray of the one row that the items write from there to their end."""
    row, _ = row_at(items, at, FEWEST_PINS, MOST_PINS, ())
    return Tray([row])


def _either_way(row):
    """The same row for each two rows that are kin."""
    return max(row, tuple([-number for number in row]))


def are_kin(row, its):
    """Whether two rows are equal, or one is -1 times the other."""
    return _either_way(row) == _either_way(its)


def check_tray(value, part):
    """Raise BadTray with this part unless the value is a Tray."""
    if not isinstance(value, Tray):
        raise BadTray(part)
