"""Things of other kinds, to be handed in where they are none of what is asked for."""


class Odd:
    """An object that says that it is the same as anything."""

    def __eq__(self, other):
        return True

    def __hash__(self):
        return 0


NEITHER = (
    None, 0.0, 1.0, 0.5, float("nan"), 1j, b"", b"a", b"0", bytearray(b"a"),
    [], [0], ["a"], [0, 1], (), (0,), ("a",), (0, 1), {}, {"a": 1}, set(), {0},
    frozenset(), range(2), object(), Odd(), int, str, len, iter("a"),
)
NO_INTEGERS = NEITHER + (True, False, "", "0", "1", "a", " ")
NO_TEXTS = NEITHER + (True, False, 0, 1, -1, 10 ** 30)
