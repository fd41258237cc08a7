"""Papers: answers that come with what shows them."""


def fixed(value):
    """The value with each list in it as a tuple, all the way in through lists and tuples."""
    if isinstance(value, (list, tuple)):
        return tuple([fixed(one) for one in value])
    return value


class Paper:
    """An answer, and what shows it."""

    def __init__(self, word, *parts):
        self.word = word
        self.parts = fixed(parts)

    def __eq__(self, other):
        if not isinstance(other, Paper):
            return False
        return are_alike(self, other)


class Denial(Paper):
    """A paper that says no."""

    def __init__(self, word, *parts):
        self.word = word
        self.parts = fixed(parts)

    def __eq__(self, other):
        if not isinstance(other, Denial):
            return False
        return are_alike(self, other)

    def __bool__(self):
        return False


def are_alike(one, other):
    """Whether two papers are of the same class, with the same word and parts."""
    return type(one) is type(other) and one.word == other.word and one.parts == other.parts
