"""What a call refuses, and what it answers then."""

TOO_LONG = -2
NOT_IN_FORM = -6
NOT_THERE = -4
NO_PLACE = -1
NO_SUCH_REFERENCE = -5
TOO_LARGE = -9


class Refusal(Exception):
    """Its answer is the refusal's number, and behind it what else is told."""

    def __init__(self, answer):
        self.answer = answer
