"""Values and papers bent in one place, for the tests."""

from screwsums.papers import Paper

BIG = 10 ** 30 - 1


def bent(value):
    """The value, tuples all the way in, bent in one place each; what is no integer any more is never right."""
    if isinstance(value, tuple):
        for at in range(len(value)):
            for further, odd in bent(value[at]):
                yield value[:at] + (further,) + value[at + 1:], odd
            yield value[:at] + value[at + 1:], False
            yield value[:at] + (value[at],) + value[at:], False
        yield value + (0,), False
        yield value + (None,), True
        for other in (None, 0, True, "(1,)", repr(value), {at: value[at] for at in range(len(value))},
                      Paper("a", *value), b"ab"):
            yield other, True
    else:
        for other in (value + 1, value - 1, -value, 0, 1, value * 2, BIG):
            yield other, False
        for other in (True, False, None, str(value), float(value % 1000), (value,), [value], Paper("a", value), {}):
            yield other, True


def bent_parts(paper):
    """All further parts for the class of this paper, as tuples and as lists."""
    for parts, odd in bent(paper.parts):
        if isinstance(parts, tuple) and len(parts) == len(paper.parts):
            yield parts, odd
            yield [list(part) if isinstance(part, tuple) else part for part in parts], odd
