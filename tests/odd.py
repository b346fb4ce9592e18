"""Values that the package must tell from right ones without comparing, counting or showing them."""


class Odd:
    """A value that must not be compared, counted or shown."""

    def __eq__(self, other):
        raise AssertionError("compared")

    def __bool__(self):
        raise AssertionError("tested")

    def __len__(self):
        raise AssertionError("counted")

    def __int__(self):
        raise AssertionError("taken for a number")

    def __index__(self):
        raise AssertionError("taken for a number")

    def __iter__(self):
        raise AssertionError("gone through")

    def __str__(self):
        raise AssertionError("shown")


class Same:
    """A value that says that it is equal to all others, and less and greater, too."""

    def __eq__(self, other):
        return True

    def __lt__(self, other):
        return True

    __le__ = __gt__ = __ge__ = __lt__


def nested(depth):
    """A tuple in a tuple, and so on."""
    value = ()
    for _ in range(depth):
        value = (value,)
    return value
