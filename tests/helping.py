"""What more than one file of tests needs."""

import contextlib
import signal


class Unchangeable(list):
    """A list that any change, even one that's taken back, makes fail."""

    def refuse(self, *rest, **named):
        raise AssertionError("what was handed in is changed")

    append = extend = insert = pop = remove = clear = sort = reverse = refuse
    __setitem__ = __delitem__ = __iadd__ = __imul__ = refuse


@contextlib.contextmanager
def within(seconds):
    """Fails what takes longer, instead of waiting for it."""

    def give_up(signal_number, frame):
        raise AssertionError("it takes longer than a moment")

    before = signal.signal(signal.SIGALRM, give_up)
    signal.setitimer(signal.ITIMER_REAL, seconds)
    try:
        yield
    finally:
        signal.setitimer(signal.ITIMER_REAL, 0)
        signal.signal(signal.SIGALRM, before)
