"""The answers to the ask lines of a desk."""

from farseen.desk_deeds import check_kinds
from farseen.desk_lines import ASKS, first_item, read_line
from farseen.errors import BadText
from farseen.fits import fits
from farseen.fronts import fronts
from farseen.judged import judged
from farseen.kin import groups
from farseen.quarrels import quarrels
from farseen.settled import One, settle
from farseen.shelves import check_names, check_shelf
from farseen.sizes import sizes
from farseen.steady import steady
from farseen.struck import fewest_struck, settling
from farseen.together import together
from farseen.trays import Tray
from farseen.traysettled import TrayOne, settle_tray, tray_quarrels
from farseen.uprights import standing

NONE = "-"


def _listed(values):
    """The values with single blanks between, `-` for none."""
    return " ".join([str(value) for value in values]) if values else NONE


def _parted(texts):
    """The texts with `/` between, `-` for none."""
    return " / ".join(texts) if texts else NONE


def _lots(lots):
    return _parted([_listed(lot) for lot in lots])


def _settled(thing):
    return settle_tray(thing) if isinstance(thing, Tray) else settle(thing)


def _show(shelf, parts):
    thing = shelf.thing(parts[0])
    return f"tray {thing}" if isinstance(thing, Tray) else f"album {thing}"


def _facts(shelf, parts):
    return _parted([str(fact) for fact in shelf.facts(parts[0])])


def _kind(shelf, parts):
    return _settled(shelf.thing(parts[0])).word


def _chart(shelf, parts):
    told = _settled(shelf.thing(parts[0]))
    return str(told.chart) if isinstance(told, (One, TrayOne)) else NONE


def _groups(shelf, parts):
    thing = shelf.thing(parts[0])
    return _lots(thing.kin_rows() if isinstance(thing, Tray) else groups(thing))


def _quarrels(shelf, parts):
    thing = shelf.thing(parts[0])
    return _lots(tray_quarrels(thing) if isinstance(thing, Tray) else quarrels(thing))


def _struck(shelf, parts):
    return _listed(fewest_struck(shelf.thing(parts[0])))


def _settling(shelf, parts):
    return _listed(settling(shelf.thing(parts[0])))


def _steady(shelf, parts):
    return steady(shelf.thing(parts[0])).word


def _is(shelf, parts):
    return judged(shelf.thing(parts[0]), parts[1]).word


def _fits(shelf, parts):
    return fits(shelf.thing(parts[0]), parts[1]).word


def _fronts(shelf, parts):
    return fronts(shelf.thing(parts[0]), shelf.facts(parts[0])).word


def _sizes(shelf, parts):
    return sizes(shelf.thing(parts[0])).word


def _same(shelf, parts):
    return together(shelf.thing(parts[0]), shelf.thing(parts[1])).word


def _stands(shelf, parts):
    return standing(shelf.thing(parts[0])).word


ANSWER_OF = {
    "show": _show, "facts": _facts, "kind": _kind, "chart": _chart, "groups": _groups, "quarrels": _quarrels,
    "struck": _struck, "settling": _settling, "steady": _steady, "is": _is, "fits": _fits, "fronts": _fronts,
    "sizes": _sizes, "same": _same, "stands": _stands,
}
OF_BOTH = ("show", "kind", "chart", "groups", "quarrels")
OF_TRAYS = ("steady",)


def answer_of(shelf, line):
    """The answer to an ask line."""
    check_shelf(shelf, "shelf")
    if first_item(line) not in ASKS:
        raise BadText(0, 0)
    told = read_line(line)
    head, parts = told[0], told[1:]
    if head == "names":
        return _listed(shelf.names)
    names = parts[:2] if head == "same" else parts[:1]
    check_names(shelf, names)
    check_kinds(shelf, names, head not in OF_TRAYS, head in OF_TRAYS or head in OF_BOTH)
    asked = ANSWER_OF[head]
    return asked(shelf, parts)
