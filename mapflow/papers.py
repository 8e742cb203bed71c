"""Papers: an answer, and what shows it."""

from mapflow.checks import is_list


def fixed(value):
    """The value with tuples in the place of lists, all the way in; other values stay."""
    if not is_list(value):
        return value
    return tuple([fixed(item) for item in value])


class Paper:
    """An answer told by a word and its parts; it is true."""

    def __init__(self, word, *parts):
        self.word = word
        self.parts = fixed(parts)

    def __eq__(self, other):
        return type(self) is type(other) and self.word == other.word and self.parts == other.parts

    def __bool__(self):
        return True


class Denial(Paper):
    """A paper that says no; it is false."""

    # The interface lists these methods for Denial too, so it has them itself and does not inherit them.

    def __init__(self, word, *parts):
        self.word = word
        self.parts = fixed(parts)

    def __eq__(self, other):
        return type(self) is type(other) and self.word == other.word and self.parts == other.parts

    def __bool__(self):
        return False
