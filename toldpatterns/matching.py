"""A pattern's ways through one text: where they end, and what they capture."""

from toldpatterns.places import has_place, highest_place, only


class Search:
    """A pattern and a text, when it's known how far the pattern comes from each place."""

    def __init__(self, pattern, text):
        self.pattern = pattern
        self.text = text
        self.pattern.body.measure(text)

    def comes_to(self, begin, end):
        return has_place(self.pattern.body.reach[begin], end)

    def first_begin(self, place):
        """The first place from the given one on that has a match; None if there's none."""
        for begin in range(place, self.text.end_place() + 1):
            if self.pattern.body.reach[begin] != 0:
                return begin
        return None

    def match_end(self, begin):
        """Where the match from the place ends; there has to be one."""
        return highest_place(self.pattern.body.reach[begin])

    def captures(self, begin, end):
        """What the first way from begin to end captures, a span for each name; there has to be such a way."""
        captured = [None] * len(self.pattern.names)
        self.pattern.body.follow(begin, only(end), captured)
        answer = []
        for span in captured:
            if span is None:
                answer.extend([-1, -1])
            else:
                answer.extend(self.text.in_bytes(span[0], span[1]))
        return answer
