"""Papers: answers with what shows them."""


def fixed(value):
    """The value with tuples in the place of lists, all the way in."""
    if isinstance(value, (list, tuple)):
        return tuple([fixed(part) for part in value])
    return value


def _are_same(one, other):
    return type(one) is type(other) and one.word == other.word and one.parts == other.parts


class Paper:
    """A paper that says yes: a word and the parts of the answer."""

    def __init__(self, word, *parts):
        self.word = fixed(word)
        self.parts = fixed(parts)

    def __eq__(self, other):
        return _are_same(self, other)

    def __bool__(self):
        return True


class Denial(Paper):
    """A paper that says no."""

    def __init__(self, word, *parts):
        self.word = fixed(word)
        self.parts = fixed(parts)

    def __eq__(self, other):
        return _are_same(self, other)

    def __bool__(self):
        return False
