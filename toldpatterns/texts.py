"""A text that is gone through: its scalar values and its places."""

from toldpatterns.ranges import is_word_value
from toldpatterns.scalars import scalar_at


class Text:
    """The scalar values of bytes that are UTF-8, and the first byte of each place."""

    def __init__(self, given):
        self.scalars = []
        self.first_bytes = [0]
        while self.first_bytes[-1] < len(given):
            found = scalar_at(given, self.first_bytes[-1])
            self.scalars.append(found[0])
            self.first_bytes.append(found[1])

    def end_place(self):
        return len(self.scalars)

    def has_word_value(self, place):
        """Whether a letter, a figure or _ begins at the place; before the text and at its end none does."""
        return 0 <= place < len(self.scalars) and is_word_value(self.scalars[place])

    def is_word_edge(self, place):
        return self.has_word_value(place - 1) != self.has_word_value(place)

    def in_bytes(self, begin, end):
        """The span of bytes between two places."""
        return [self.first_bytes[begin], self.first_bytes[end]]
