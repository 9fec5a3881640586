"""Slow and plain: a desk kept as plain lists, and lines to try it on."""

from farseen.albums import Album
from farseen.errors import BadAlbum, BadFact, BadNumber, BadTray, Misfit, NoFact, NoName, NoPicture, NoPin, TooMany, Twice
from farseen.facts import Fact
from farseen.fits import fits
from farseen.fronts import fronts
from farseen.judged import judged
from farseen.kin import groups
from farseen.pictures import Picture
from farseen.quarrels import quarrels
from farseen.sayings import Saying
from farseen.settled import settle
from farseen.sizes import sizes
from farseen.steady import steady
from farseen.struck import fewest_struck, settling
from farseen.together import together
from farseen.trays import Tray
from farseen.traysettled import settle_tray, tray_quarrels
from farseen.uprights import standing
from tests.helpers import chance
from tests.test_bodies import some_bodies

LIMIT = 10 ** 9
ALBUMS_ONLY = ("take", "front", "unsay", "join", "facts", "struck", "settling", "is", "fits", "fronts", "sizes", "same", "stands")
TRAYS_ONLY = ("row", "upright", "steady")


def places_of(items):
    numbers = [int(item) for item in items if item != "/"]
    return [tuple(numbers[at:at + 2]) for at in range(0, len(numbers), 2)]


class PlainThing:

    def __init__(self, kind, rows, facts=()):
        self.kind, self.rows, self.facts = kind, list(rows), list(facts)

    def made(self):
        return Album([Picture(row) for row in self.rows]) if self.kind == "album" else Tray(self.rows)

    def told_facts(self):
        return [Fact(*fact) for fact in self.facts]


class PlainDesk:
    """Names and things in two lists of one length."""

    def __init__(self):
        self.names, self.things = [], []

    def copy(self):
        other = PlainDesk()
        other.names = list(self.names)
        other.things = [PlainThing(thing.kind, thing.rows, thing.facts) for thing in self.things]
        return other

    def shelf_things(self):
        return [(name, thing.made(), thing.told_facts()) for name, thing in zip(self.names, self.things)]

    def kept(self, line):
        """The things of a line, behind the errors of names; the other items."""
        items = line.split(" ")
        head, rest = items[0], items[1:]
        new = head in ("album", "tray", "join", "upright")
        many = {"names": 0, "album": 0, "tray": 0, "join": 2, "same": 2}.get(head, 1)
        names = rest[new:new + many]
        for name in names:
            if name not in self.names:
                raise NoName(name)
        things = [self.things[self.names.index(name)] for name in names]
        for thing in things:
            if head in (TRAYS_ONLY if thing.kind == "album" else ALBUMS_ONLY):
                raise Misfit("kinds")
        if new and rest[0] in self.names:
            raise Twice(rest[0])
        return head, things, rest[new + many:], rest[0] if new else None

    def put(self, name, kind, rows, facts=()):
        self.names.append(name)
        self.things.append(PlainThing(kind, rows, facts))

    def deed(self, line):
        """Does a deed line; the answer."""
        head, things, rest, new = self.kept(line)
        return str(getattr(self, "do_" + head)(things, rest, new))

    def do_album(self, things, rest, new):
        self.put(new, "album", [places_of(rest)])
        return len(places_of(rest))

    def do_tray(self, things, rest, new):
        self.put(new, "tray", [[int(item) for item in rest]])
        return len(rest)

    def add_row(self, thing, row, what):
        if len(row) != len(thing.rows[0]):
            raise Misfit("pins")
        if len(thing.rows) == 8:
            raise TooMany(what, 8)
        thing.rows.append(row)
        return len(thing.rows) - 1

    def do_take(self, things, rest, new):
        return self.add_row(things[0], places_of(rest), "pictures")

    def do_row(self, things, rest, new):
        return self.add_row(things[0], [int(item) for item in rest], "rows")

    def numbers(self, rest, many, error):
        numbers = [int(item) for item in rest]
        for number in numbers:
            if number >= many:
                raise error(number)
        for at, number in enumerate(numbers):
            if number in numbers[:at]:
                raise Twice(number)
        return numbers

    def do_strike(self, things, rest, new):
        thing = things[0]
        numbers = self.numbers(rest, len(thing.rows), NoPicture)
        left = [k for k in range(len(thing.rows)) if k not in numbers]
        if not left:
            raise BadAlbum("pictures") if thing.kind == "album" else BadTray("rows")
        thing.facts = [(left.index(fact[0]), fact[1], fact[2]) for fact in thing.facts if fact[0] in left]
        thing.rows = [thing.rows[k] for k in left]
        return len(left)

    def do_front(self, things, rest, new):
        thing = things[0]
        picture, near, far = [int(item) for item in rest]
        if picture >= len(thing.rows):
            raise NoPicture(picture)
        for pin in (near, far):
            if pin >= len(thing.rows[0]):
                raise NoPin(pin)
        if near == far:
            raise BadFact("pins")
        if len(thing.facts) == 12:
            raise TooMany("facts", 12)
        thing.facts.append((picture, near, far))
        return len(thing.facts) - 1

    def do_unsay(self, things, rest, new):
        thing = things[0]
        numbers = self.numbers(rest, len(thing.facts), NoFact)
        thing.facts = [fact for k, fact in enumerate(thing.facts) if k not in numbers]
        return len(thing.facts)

    def do_join(self, things, rest, new):
        one, other = things
        if len(one.rows[0]) != len(other.rows[0]):
            raise Misfit("pins")
        if len(one.rows) + len(other.rows) > 8:
            raise TooMany("pictures", 8)
        facts = one.facts + [(picture + len(one.rows), near, far) for picture, near, far in other.facts]
        if len(facts) > 12:
            raise TooMany("facts", 12)
        self.put(new, "album", one.rows + other.rows, facts)
        return len(one.rows) + len(other.rows)

    def do_upright(self, things, rest, new):
        along = [int(item) for item in rest]
        if any(abs(number) > LIMIT for number in along):
            raise BadNumber("along")
        if len(along) != len(things[0].rows[0]) or len(along) == 3:
            raise Misfit("pins")
        self.put(new, "album", [list(zip(along, row)) for row in things[0].rows])
        return len(things[0].rows)

    def do_drop(self, things, rest, new):
        at = self.things.index(things[0])
        del self.names[at], self.things[at]
        return len(self.names)

    def ask(self, line):
        """The answer to an ask line."""
        head, things, rest, _ = self.kept(line)
        if head == "names":
            return " ".join(self.names) or "-"
        thing, made = things[0], [thing.made() for thing in things]
        is_album = thing.kind == "album"
        if head == "show":
            texts = [" / ".join(f"{x} {y}" for x, y in row) for row in thing.rows] if is_album else [" ".join(map(str, row)) for row in thing.rows]
            return thing.kind + " " + (" ; " if is_album else " / ").join(texts)
        if head == "facts":
            return " / ".join(" ".join(map(str, fact)) for fact in thing.facts) or "-"
        if head in ("groups", "quarrels"):
            call = {"groups": groups if is_album else Tray.kin_rows, "quarrels": quarrels if is_album else tray_quarrels}[head]
            return " / ".join(" ".join(map(str, lot)) for lot in call(made[0])) or "-"
        if head in ("struck", "settling"):
            return " ".join(map(str, {"struck": fewest_struck, "settling": settling}[head](made[0]))) or "-"
        if head in ("kind", "chart"):
            told = (settle if is_album else settle_tray)(made[0])
            if head == "kind":
                return told.word
            return str(told.chart) if told.word in ("one", "trayone") else "-"
        if head == "is":
            return judged(made[0], Saying.read(" ".join(rest))).word
        if head == "fits":
            return fits(made[0], Picture(places_of(rest))).word
        if head == "fronts":
            return fronts(made[0], thing.told_facts()).word
        return {"sizes": sizes, "same": together, "stands": standing, "steady": steady}[head](*made).word


class Lines:
    """Drawn lines: deeds and asks over few names, most of them such as can be done."""

    def __init__(self, seed):
        self.dice = chance(seed)
        bodies = [body for body in some_bodies(seed + 1, 40, 2) if body.pins == 4][:3] + [body for body in some_bodies(seed + 2, 40, 2) if body.pins == 5][:1]
        fours = [(1, 0, 0, 0), (1, 1, 0, 0), (1, 0, 1, 0), (1, 1, 1, 1), (0, 1, 1, 0)]
        self.pictures = [str(picture) for body in bodies for picture in body.album(fours).pictures]
        self.pictures += [str(Picture([(0, 0), (1, 1), (2, 2), (3, 3)])), str(Picture([(0, 0), (1, 0), (0, 1), (1, 1)]).times(3))]
        self.rows = ["0 2 1 0", "0 1 2 0", "0 3 3 0", "5 3 4 5", "0 1 0 0", "0 2 1", "0 1 2", "0 3 3", "0 -1 1", "0 0 0 0 1"]

    def name(self):
        return self.dice.choice(("a", "b", "c", "d1", "e"))

    def numbers(self, most):
        return " ".join(str(self.dice.randrange(most)) for _ in range(self.dice.randrange(1, 4)))

    def deed(self):
        name, other, dice = self.name(), self.name(), self.dice
        return dice.choice((
            f"album {name} {dice.choice(self.pictures)}", f"album {name} {dice.choice(self.pictures)}", f"tray {name} {dice.choice(self.rows)}",
            f"take {name} {dice.choice(self.pictures)}", f"take {name} {dice.choice(self.pictures)}", f"take {name} {dice.choice(self.pictures)}",
            f"row {name} {dice.choice(self.rows)}", f"row {name} {dice.choice(self.rows)}", f"row {name} {dice.choice(self.rows)}",
            f"strike {name} {self.numbers(3)}", f"front {name} {dice.randrange(3)} {dice.randrange(4)} {dice.randrange(5)}",
            f"front {name} {dice.randrange(2)} {dice.randrange(4)} {dice.randrange(4)}", f"front {name} 0 {dice.randrange(2)} {dice.randrange(2, 4)}",
            f"unsay {name} {self.numbers(3)}", f"join {dice.choice('fgh')} {other} {self.name()}", f"join {name} {other} {self.name()}",
            f"upright {dice.choice('fgh')} {other} 1 0 2 -1", f"upright {name} {other} {self.numbers(4)}", f"drop {name}", f"drop {dice.choice('fgh')}"))

    def ask(self):
        name, other, dice = self.name(), self.name(), self.dice
        return dice.choice((
            "names", f"show {name}", f"facts {name}", f"kind {name}", f"chart {name}", f"groups {name}", f"quarrels {name}", f"struck {name}",
            f"settling {name}", f"steady {name}", f"is {name} 1 0 1 0 1 above {dice.randrange(9)}", f"is {name} 1 0 1 0 2 just 0",
            f"fits {name} {dice.choice(self.pictures)}", f"fronts {name}", f"sizes {name}", f"same {name} {other}", f"stands {name}"))
