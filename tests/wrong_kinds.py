"""Things of many kinds that are no whole numbers, for the tests of refusals."""

from decimal import Decimal
from fractions import Fraction


class Hostile:
    """Fails whatever is done with it, and says that it is an int."""

    def _fail(self, *told):
        raise RuntimeError("a refused thing was used")

    __eq__ = __ne__ = __lt__ = __le__ = __gt__ = __ge__ = _fail
    __hash__ = __bool__ = __len__ = __iter__ = __contains__ = __getitem__ = _fail
    __int__ = __index__ = __float__ = __add__ = __radd__ = __mod__ = __neg__ = _fail
    __str__ = __repr__ = __format__ = _fail

    @property
    def __class__(self):
        return int


class Index:
    """Would pass for the number 1 where an index is asked for."""

    def __index__(self):
        return 1

    __int__ = __index__

    def __eq__(self, other):
        return other == 1

    def __hash__(self):
        return hash(1)


def no_numbers():
    """Pairs of a name and a thing that is no whole number."""
    return [
        ("True", True),
        ("False", False),
        ("None", None),
        ("empty text", ""),
        ("text", "1"),
        ("word", "one"),
        ("bytes", b"1"),
        ("float", 1.0),
        ("half", 0.5),
        ("not a number", float("nan")),
        ("infinity", float("inf")),
        ("complex", 1 + 0j),
        ("Decimal", Decimal(1)),
        ("Fraction", Fraction(1)),
        ("empty list", []),
        ("list", [1]),
        ("empty tuple", ()),
        ("tuple", (1,)),
        ("pair", (0, 1)),
        ("dict", {1: 1}),
        ("set", {1}),
        ("range", range(1, 2)),
        ("class", int),
        ("function", len),
        ("object", object()),
        ("Ellipsis", ...),
        ("index", Index()),
        ("hostile", Hostile()),
    ]


def great_numbers():
    """Pairs of a name and a number so great that it can hardly be shown."""
    return [
        ("2 ** 31", 2**31),
        ("2 ** 64", 2**64),
        ("10 ** 6000", 10**6000),
        ("-2 ** 64", -(2**64)),
        ("-10 ** 6000", -(10**6000)),
    ]


def no_points(many):
    """Pairs of a name and a thing that is no point of a web of so many points."""
    beyond = [("just beyond", many), ("beyond", many + 1), ("thirteen", 13), ("-1", -1), ("least", -many)]
    return beyond + great_numbers() + no_numbers()
