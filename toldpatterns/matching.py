"""A pattern's ways through one text: where they end, and what they capture."""

from toldpatterns.places import has_place, highest_place, only


class Search:
    """A pattern and a text, when it's known how far the pattern comes from each place."""

    def __init__(self, pattern, text):
        self.pattern = pattern
        self.text = text
        self.pattern.body.measure(text)

    def comes_to(self, begin, end):
        return has_place(self.pattern.body.reach[begin], end)

    def first_match(self, place):
        """Where the first match from the place on begins and ends; None if there's none."""
        for begin in range(place, self.text.end_place() + 1):
            if self.pattern.body.reach[begin] != 0:
                return (begin, highest_place(self.pattern.body.reach[begin]))
        return None

    def all_matches(self):
        """Where all matches, one behind another, begin and end."""
        matches = []
        last_end = None
        found = self.first_match(0)
        while found is not None:
            # The last match has taken its end with it: no empty one is left there.
            if found != (last_end, last_end):
                matches.append(found)
                last_end = found[1]
            found = self.first_match(max(found[1], found[0] + 1))
        return matches

    def all_places(self):
        """The bytes at which all matches begin and end, in turn."""
        places = []
        for (begin, end) in self.all_matches():
            places.extend(self.text.in_bytes(begin, end))
        return places

    def captures(self, begin, end):
        """What the first way from begin to end captures, a span for each name; there has to be such a way."""
        captured = [None] * len(self.pattern.names)
        self.pattern.body.follow(begin, only(end), captured)
        answer = []
        for span in captured:
            if span is None:
                answer.extend([-1, -1])
            else:
                answer.extend(self.text.in_bytes(span[0], span[1]))
        return answer

    def spans(self, begin, end):
        """The span of the match from begin to end, then its names'."""
        return self.text.in_bytes(begin, end) + self.captures(begin, end)
