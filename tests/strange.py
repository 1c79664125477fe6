"""Things of many kinds, to be handed in where a refusal is told."""


class Angry:
    """Refuses whatever is asked of it with an error of its own."""

    def _refuse(self, *told):
        raise RuntimeError("asked")

    __eq__ = __ne__ = __lt__ = __le__ = __gt__ = __ge__ = _refuse
    __hash__ = __len__ = __iter__ = __bool__ = __getitem__ = _refuse
    __contains__ = __index__ = __int__ = __repr__ = __str__ = _refuse


class AngryList(list):
    """A list that refuses to be read."""

    __len__ = __iter__ = __getitem__ = __eq__ = Angry._refuse


class AngryTuple(tuple):
    """A tuple that refuses to be read."""

    __len__ = __iter__ = __getitem__ = __eq__ = __hash__ = Angry._refuse


class AngryInt(int):
    """A number that refuses to be compared."""

    __eq__ = __lt__ = __le__ = __gt__ = __ge__ = __hash__ = __index__ = Angry._refuse


class Liar:
    """Says that it is of another class."""

    def __init__(self, claimed):
        self.claimed = claimed

    @property
    def __class__(self):
        return self.claimed


def strange_things():
    """Things of which none is a row, a web's colours or ties, or a whole number from 0 to 11."""
    endless = []
    endless.append(endless)
    return [
        None, True, False, -1, -(10 ** 30), 10 ** 30, 0.0, 1.0, 1.5, float("nan"), 1j,
        "", "0", "a", "0 1", b"", b"\x00", bytearray(b"\x00"),
        (), (0,), (0, 1), {}, {0: 0}, {0: 1, 1: 0}, set(), {0}, frozenset({0}),
        [[]], [None], [True], [False], ["0"], [0.0], [-1], [12], [(0,)], [(0, 1), 0], endless,
        range(1), range(3), iter([0]), (k for k in [0]), enumerate([0]),
        object(), len, int, list, lambda k: k, NotImplemented, Ellipsis, ValueError("0"),
        Angry(), AngryList([0]), AngryTuple((0, 1)), AngryInt(0), Liar(int), Liar(list), Liar(tuple),
        [Angry()], [AngryInt(0)], [AngryList([0])], [AngryTuple((0, 1))],
        [Liar(int)], [(Angry(), 1)], [(0, Angry())], [(AngryInt(0), 1)], [(Liar(int), 1)],
    ]


def check_refused(case, refusal, call):
    """Checks that the call is refused with this very class."""
    try:
        call()
    except Exception as error:
        case.assertIs(refusal, error.__class__)
    else:
        case.fail("not refused")
