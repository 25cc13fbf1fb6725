"""Values that several tests share."""


class Odd:
    """An object that no comparison, length or truth can be asked of."""

    def __eq__(self, other):
        raise AssertionError("compared")

    __hash__ = None

    def __len__(self):
        raise AssertionError("measured")

    def __bool__(self):
        raise AssertionError("tested")

    def __getitem__(self, at):
        raise AssertionError("indexed")


NO_STRINGS = (None, True, False, 0, 1, -1, 10 ** 30, 1.0, 2j, b"", b"a", [], ["a"], (), ("a",),
              {}, {"a": 1}, set(), {"a"}, frozenset("a"), bytearray(b"a"), range(3), len, str,
              object(), Odd())

NO_INTEGERS = (None, True, False, 0.0, 1.0, 2j, "", "1", b"1", [], [1], (), (1,), {}, {1: 1},
               set(), range(3), len, int, object(), Odd())

NO_TUPLES = (None, True, False, 0, 1, -1, 1.0, "", "get", "done", b"get", [], ["get", "a"],
             {}, {"get": "a"}, set(), range(3), len, tuple, object(), Odd())
