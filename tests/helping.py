"""What more than one file of tests needs."""

import contextlib
import itertools
import signal


# A pattern and a text, of which one is too long; and of which one is not in form.
TOO_LONG_PAIRS = (
    (b"a" * 129, b""), (b"a", b"a" * 129), (b"(", b"a" * 129), (b"(" * 129, b"\xff"), (b"a", b"\xff" * 129),
    (b"a" * 1000, b"a" * 1000),
)
FAULTY_PATTERNS = (b"(", b"a)", b"*", b"a{21}", b"<a b><a c>", b"(" * 41, b"[b-a]", b"(a{20}){11}", b"\x80")
FAULTY_TEXTS = (b"\xff", b"a\xed\xa0\x80", b"aa\xc3", b"\xc0\x80", b"\xf4\x90\x80\x80")
FAULTY_PAIRS = tuple(itertools.product(FAULTY_PATTERNS, (b"a", b"\xff"))) + tuple(
    itertools.product((b"a", b""), FAULTY_TEXTS))


class Unchangeable(list):
    """A list that any change, even one that's taken back, makes fail."""

    def refuse(self, *rest, **named):
        raise AssertionError("what was handed in is changed")

    append = extend = insert = pop = remove = clear = sort = reverse = refuse
    __setitem__ = __delitem__ = __iadd__ = __imul__ = refuse


@contextlib.contextmanager
def within(seconds):
    """Fails what takes longer, instead of waiting for it."""

    def give_up(signal_number, frame):
        raise AssertionError("it takes longer than a moment")

    before = signal.signal(signal.SIGALRM, give_up)
    signal.setitimer(signal.ITIMER_REAL, seconds)
    try:
        yield
    finally:
        signal.setitimer(signal.ITIMER_REAL, 0)
        signal.signal(signal.SIGALRM, before)
