"""Things of any kind, for tests of what must tell or refuse without stumbling."""


def nested(wrap, depth):
    thing = wrap(None)
    for _ in range(depth - 1):
        thing = wrap(thing)
    return thing


class Plain:
    pass


class Sly:
    """Alike to everything, and no key of a dict."""

    def __eq__(self, other):
        return True

    __hash__ = None


# None of these is a text, a row, a pair of a field and a word, a rule, a reason, a bar, a ground, or a tuple of such.
ODD_THINGS = [
    None, True, False, 0, 1, -1, 7, 10 ** 30, b"", b"abc", b"a:",
    [], [1], ["a"], [[]], {}, {"a": 1}, set(), {"a"}, frozenset(["a"]), range(3), (None,), ((),), (1,), ("",),
    ("a", []), (["a"], ()), ({},), ((), ()), ((), (), []), ([], [], []), ({}, {}, {}), ("a", "B"), ("a", None),
    ("same",), ("never",), (("a", ()), None), (None, None, None), (None, None, None, None), (1, 2, 3, 4),
    object(), Plain, Plain(), Sly(), (Sly(), Sly()), (Sly(), Sly(), Sly()), (Sly(), Sly(), Sly(), Sly()), len,
    lambda: None, nested(lambda x: [x], 500), nested(lambda x: (x,), 500), nested(lambda x: {"a": x}, 500),
    nested(lambda x: (x, x), 500), iter(()),
]
