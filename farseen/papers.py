"""Papers: answers, and what shows them."""


def fixed(value):
    """The value with tuples in the place of lists, all the way in."""
    if isinstance(value, (list, tuple)):
        return tuple([fixed(item) for item in value])
    return value


def _are_equal(paper, value):
    # The name stands for the class: no two classes of papers have one name.
    return (isinstance(value, Paper) and paper.__class__.__name__ == value.__class__.__name__
            and paper.word == value.word and paper.parts == value.parts)


class Paper:
    """An answer, true: a word, and parts that show it."""

    def __init__(self, word, *parts):
        self.word = fixed(word)
        self.parts = fixed(parts)

    def __eq__(self, other):
        return _are_equal(self, other)


class Denial(Paper):
    """A paper that says no: false."""

    def __eq__(self, other):
        return _are_equal(self, other)

    def __bool__(self):
        return False
