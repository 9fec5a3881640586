"""What the deed lines of a desk do to a shelf."""

from farseen.albums import Album
from farseen.checks import first_twice, is_within
from farseen.desk_lines import DEEDS, first_item, read_line
from farseen.errors import BadText, Misfit, NoFact, TooMany, Twice
from farseen.facts import Fact
from farseen.fronts import MOST_FACTS
from farseen.guards import check_picture_number, check_picture_numbers, check_pin
from farseen.shelves import Shelf, check_names, check_shelf
from farseen.trays import Tray
from farseen.uprights import upright


def _put_in(shelf, name, thing, facts):
    """The shelf with a thing more."""
    return Shelf(shelf.things + ((name, thing, facts),))


def _with(shelf, name, thing, facts):
    """The shelf with another thing, and other facts, in the place of those under this name."""
    return Shelf([(name, thing, facts) if told[0] == name else told for told in shelf.things])


def _check_many(facts):
    if len(facts) > MOST_FACTS:
        raise TooMany("facts", MOST_FACTS)


def _keep_picture(shelf, parts):
    name, picture = parts
    return _put_in(shelf, name, Album([picture]), ()), picture.pins


def _keep_tray(shelf, parts):
    name, tray = parts
    return _put_in(shelf, name, tray, ()), tray.pins


def _take(shelf, parts):
    name, picture = parts
    album = shelf.thing(name)
    return _with(shelf, name, album.with_picture(picture), shelf.facts(name)), len(album.pictures)


def _row(shelf, parts):
    name, row = parts
    tray = shelf.thing(name)
    return _with(shelf, name, tray.with_row(row.places[0]), ()), len(tray.places)


def _left_facts(facts, left):
    """The facts of the pictures that are left, with their new numbers."""
    return tuple([Fact(left.index(fact.picture), fact.near, fact.far) for fact in facts if fact.picture in left])


def _strike(shelf, parts):
    name, numbers = parts[0], parts[1:]
    thing = shelf.thing(name)
    many = len(thing.rows) if isinstance(thing, Tray) else len(thing.pictures)
    check_picture_numbers(numbers, many)
    left = [number for number in range(many) if number not in numbers]
    # What is left of none raises the error of the class.
    return _with(shelf, name, thing.picked(left), _left_facts(shelf.facts(name), left)), len(left)


def _front(shelf, parts):
    name, picture, near, far = parts
    album, facts = shelf.thing(name), shelf.facts(name)
    check_picture_number(picture, len(album.pictures))
    check_pin(near, album.pins)
    check_pin(far, album.pins)
    told = facts + (Fact(picture, near, far),)
    _check_many(told)
    return _with(shelf, name, album, told), len(facts)


def _unsay(shelf, parts):
    name, numbers = parts[0], parts[1:]
    facts = shelf.facts(name)
    for number in numbers:
        if not is_within(number, 0, len(facts) - 1):
            raise NoFact(number)
    again = first_twice(numbers)
    if again is not None:
        raise Twice(again)
    left = [fact for number, fact in enumerate(facts) if number not in numbers]
    return _with(shelf, name, shelf.thing(name), left), len(left)


def _join(shelf, parts):
    new, name, other = parts
    album = shelf.thing(name)
    whole = album.joined(shelf.thing(other))
    many = len(album.pictures)
    facts = shelf.facts(name) + tuple([Fact(fact.picture + many, fact.near, fact.far) for fact in shelf.facts(other)])
    _check_many(facts)
    return _put_in(shelf, new, whole, facts), len(whole.pictures)


def _upright(shelf, parts):
    new, name, along = parts[0], parts[1], parts[2:]
    album = upright(shelf.thing(name), along)
    return _put_in(shelf, new, album, ()), len(album.pictures)


def _drop(shelf, parts):
    name = parts[0]
    left = [told for told in shelf.things if told[0] != name]
    return Shelf(left), len(left)


DEED_OF = {
    "album": _keep_picture, "tray": _keep_tray, "take": _take, "row": _row, "strike": _strike, "front": _front,
    "unsay": _unsay, "join": _join, "upright": _upright, "drop": _drop,
}
MADE_OF_NONE = ("album", "tray")
MADE_OF_KEPT = ("join", "upright")
OF_ALBUMS = ("take", "front", "unsay", "join")
OF_TRAYS = ("row", "upright")


def check_kinds(shelf, names, of_albums, of_trays):
    """Raise Misfit if a thing under these names is of none of the kinds that are told."""
    for name in names:
        is_right = of_trays if isinstance(shelf.thing(name), Tray) else of_albums
        if not is_right:
            raise Misfit("kinds")


def _names_asked(head, parts):
    """The names of a deed line under which things must be kept."""
    if head in MADE_OF_NONE:
        return ()
    if head in MADE_OF_KEPT:
        return parts[1:3] if head == "join" else parts[1:2]
    return parts[:1]


def _check_names(shelf, head, parts):
    """Raise NoName, Misfit or Twice for the names of a deed line."""
    names = _names_asked(head, parts)
    check_names(shelf, names)
    check_kinds(shelf, names, head not in OF_TRAYS, head not in OF_ALBUMS)
    if head in MADE_OF_NONE + MADE_OF_KEPT and parts[0] in shelf.names:
        raise Twice(parts[0])


def changed(shelf, line):
    """The shelf behind a deed line, and the answer."""
    check_shelf(shelf, "shelf")
    if first_item(line) not in DEEDS:
        raise BadText(0, 0)
    told = read_line(line)
    head, parts = told[0], told[1:]
    _check_names(shelf, head, parts)
    deed = DEED_OF[head]
    later, answer = deed(shelf, parts)
    return (later, str(answer))
