"""Things of many kinds that the tests hand in where they do not belong."""


def fail(*told, **more):
    raise AssertionError("a thing that is refused was asked something")


class Prickly:
    """An object that bears no question but of which class it is."""

    __eq__ = __ne__ = __lt__ = __le__ = __gt__ = __ge__ = fail
    __bool__ = __len__ = __iter__ = __contains__ = __getitem__ = fail
    __int__ = __index__ = __add__ = __radd__ = __sub__ = __rsub__ = fail
    __str__ = __repr__ = __format__ = __hash__ = fail


def no_numbers():
    """New things each time that are no whole numbers."""
    return [
        True, False, None, "", "1", "0", b"", b"1", (), (1,), [], [1], {}, {1: 1},
        set(), {1}, frozenset(), range(3), object(), int, len, fail, 1j, Ellipsis,
        NotImplemented, iter([1]), ValueError("1"), Prickly(), Prickly,
    ]


def no_tuples():
    """New things each time that are no tuples."""
    return [
        0, 1, 2, -1, 10 ** 5000, True, False, None, "", "ab", "01", b"", b"\x00\x01",
        [], [0], [0, 1], [0, 1, 1, 0], {}, {0: 1}, set(), {0, 1}, frozenset({0, 1}),
        range(2), object(), tuple, len, fail, 1j, iter((0, 1)), Prickly(), Prickly,
    ]


class Refusing:
    """Beside TestCase: what a call has to refuse."""

    def refuses(self, told, call, things):
        """The call refuses each of the things that it is handed."""
        for at, thing in enumerate(things):
            with self.subTest(told=told.__name__, at=at), self.assertRaises(told):
                call(thing)

    def refuses_first(self, call, cases):
        """The call tells that refusal which stands behind its arguments."""
        for at, (*things, told) in enumerate(cases):
            with self.subTest(first=told.__name__, at=at), self.assertRaises(told):
                call(*things)
