"""Papers: answers that tell what shows them."""


def fixed(value):
    """Any value with tuples in the place of lists, all the way in; other values stay."""
    if isinstance(value, (list, tuple)):
        return tuple([fixed(item) for item in value])
    return value


class Paper:
    """An answer with a word and parts; it is true. All classes of papers are below this one."""

    def __init__(self, word, *parts):
        self.word = fixed(word)
        self.parts = fixed(parts)

    def __eq__(self, other):
        return isinstance(other, Paper) and _is_same(self, other)

    def __bool__(self):
        return True


class Denial(Paper):
    """A paper that says no: it is false."""

    def __init__(self, word, *parts):
        Paper.__init__(self, word, *parts)

    def __eq__(self, other):
        return isinstance(other, Denial) and _is_same(self, other)

    def __bool__(self):
        return False


def _is_same(one, other):
    # Classes themselves are not compared, but each class of papers has a name of its own.
    if one.__class__.__name__ != other.__class__.__name__:
        return False
    return (one.word, one.parts) == (other.word, other.parts)
