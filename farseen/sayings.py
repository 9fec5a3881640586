"""Sayings: that a sum of products of steps is above, below, or just a number."""

from farseen.charts import Chart, check_chart, product_in
from farseen.checks import is_integer, is_list, is_within, lowest
from farseen.errors import BadNumber, BadSaying, BadText, Misfit, TooMany
from farseen.texts import items_of, number_at

WORDS = ("above", "below", "just")
OTHER_WAY = {"above": "below", "below": "above", "just": "just"}
MOST_TERMS = 12
LAST_PIN = 6


def _is_step(value):
    """Whether it is a pair of integers from 0 to 6."""
    return is_list(value) and len(value) == 2 and all([is_within(pin, 0, LAST_PIN) for pin in value])


def _is_term(value):
    """Whether it is an integer and two steps."""
    return is_list(value) and len(value) == 3 and is_integer(value[0]) and _is_step(value[1]) and _is_step(value[2])


def _check_steps(step, its):
    for value, part in ((step, "step"), (its, "its")):
        if not _is_step(value):
            raise BadSaying(part)


class Saying:
    """A sum of products of steps, each so many times, held against a number."""

    def __init__(self, terms, word, number):
        if not is_list(terms) or not terms or not all([_is_term(term) for term in terms]):
            raise BadSaying("terms")
        if not isinstance(word, str) or word not in WORDS:
            raise BadSaying("word")
        if not is_integer(number):
            raise BadNumber("number")
        if len(terms) > MOST_TERMS:
            raise TooMany("terms", MOST_TERMS)
        self.terms = tuple([(many, tuple(step), tuple(its)) for many, step, its in terms])
        self.word = word
        self.number = number
        self.pins = 1 + max([max(step + its) for _, step, its in self.terms])

    def __eq__(self, other):
        return (isinstance(other, Saying) and self.terms == other.terms and self.word == other.word
                and self.number == other.number)

    def __str__(self):
        terms = " + ".join([f"{many} {a} {b} {c} {d}" for many, (a, b), (c, d) in self.terms])
        return f"{terms} {self.word} {self.number}"

    @staticmethod
    def read(text):
        """The saying whose text this is."""
        return saying_at(items_of(text), 0)

    @staticmethod
    def longer(step, its):
        """The square of the one step is greater than that of the other one."""
        _check_steps(step, its)
        return Saying([(1, step, step), (-1, its, its)], "above", 0)

    @staticmethod
    def right(step, its):
        """The product of both steps is just 0."""
        _check_steps(step, its)
        return Saying([(1, step, its)], "just", 0)

    def value(self, chart):
        """The sum in a chart."""
        check_chart(chart, "chart")
        if chart.pins < self.pins:
            raise Misfit("pins")
        return lowest(sum_in(chart.rows, self.terms), chart.by)

    def holds(self, chart):
        """Whether the chart keeps the saying."""
        total, by = self.value(chart)
        return self.word == word_for(total - self.number * by)

    def form(self, pins):
        """The chart in which each row comes to the sum, if all steps go what the row has."""
        if not is_within(pins, 3, LAST_PIN + 1):
            raise BadNumber("pins")
        if pins < self.pins:
            raise Misfit("pins")
        rows = [[0] * (pins - 1) for _ in range(pins - 1)]
        for many, step, its in self.terms:
            for pin, sign in ((step[1], many), (step[0], -many)):
                for other, its_sign in ((its[1], sign), (its[0], -sign)):
                    if pin > 0 and other > 0:
                        rows[pin - 1][other - 1] += its_sign
                        rows[other - 1][pin - 1] += its_sign
        return Chart(rows, 2)

    def others(self):
        """The sayings with the two other words."""
        return tuple([Saying(self.terms, word, self.number) for word in WORDS if word != self.word])

    def times(self, number):
        """So many times, which the same charts keep."""
        if not is_integer(number) or number == 0:
            raise BadNumber("number")
        terms = [(many * number, step, its) for many, step, its in self.terms]
        word = self.word if number > 0 else OTHER_WAY[self.word]
        return Saying(terms, word, self.number * number)


def sum_in(rows, terms):
    """What the terms add up to by these rows, of products of the steps from pin 0."""
    return sum([many * product_in(rows, step, its) for many, step, its in terms])


def word_for(difference):
    """The word that a sum keeps which is so much more than the number."""
    if difference == 0:
        return "just"
    return "above" if difference > 0 else "below"


def saying_at(items, at):
    """The saying that the items write from there to their end."""
    terms = []
    while True:
        many = number_at(items, at, None, None)
        a, b, c, d = [number_at(items, at + k, 0, LAST_PIN) for k in range(1, 5)]
        terms.append((many, (a, b), (c, d)))
        at += 6
        if at - 1 >= len(items) or not (items[at - 1] in WORDS or items[at - 1] == "+" and len(terms) < MOST_TERMS):
            raise BadText(0, at - 1)
        if items[at - 1] != "+":
            break
    number = number_at(items, at, None, None)
    if at + 1 < len(items):
        raise BadText(0, at + 1)
    return Saying(terms, items[at - 1], number)


def check_saying(value, part):
    """Raise BadSaying with this part unless the value is a Saying."""
    if not isinstance(value, Saying):
        raise BadSaying(part)
