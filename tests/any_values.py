"""Values of every kind that the document counts among any value, for the tests of wrong inputs."""


def nested(kind):
    """A value with 40 containers around each other."""
    value = 1
    for _ in range(40):
        value = {"k": value} if kind is dict else kind([value])
    return value


PLAIN = [
    None, True, False, 0, 1, -1, 9, 10, 10 ** 5000, -10 ** 5000,
    "", "a", "x" * 100000, "\0", "\ud800", "\U0001f600", "\u0663",
]

NESTED = [
    (), [], {}, (None,), [None], {0: None}, ((),), [[]], ("",), (True,), [1], (1, "1"), ({},), ([],),
    {"1": (1,)}, ((1,), [2]), nested(tuple), nested(list), nested(dict),
]

ANY = PLAIN + NESTED
