"""Machines, values and small builders that several tests use."""

MACHINE = (4, ("a", "b"), 2, 2, 2, 10)
A = ("reg", "a")
B = ("reg", "b")
H0 = ("hid", 0)
H1 = ("hid", 1)
OPS = ("add", "sub", "and", "or", "xor", "less", "same")


def nested(many, thing=()):
    """The thing within so many tuples."""
    for step in range(many):
        thing = (thing,)
    return thing


def nested_lists(many):
    thing = []
    for step in range(many):
        thing = [thing]
    return thing


class Plain:
    """A value of a kind that nobody told of."""


def anything():
    """Values that are no machine, order, row of one order or state."""
    return [
        None, True, False, 0, 1, -1, 10 ** 8, 1.0, 1j, "", "a", "alu", "nop", "bits 4", b"", b"alu",
        [], [1], {}, {"a": 1}, set(), frozenset([1]), Plain(), Plain, len, range(3), iter([]),
        (None,), (True,), (0,), ("",), ("alu",), ("put",), (b"put",), ([],), ({},), (set(),), ((),), ((), ()),
        ([], []), ((), (), ()), ([], [], []), (1, 2), (1, 2, 3), (1, 2, 3, 4, 5), (1, 2, 3, 4, 5, 6),
        ("alu", "add"), ("alu", [], [], [], []), ("alu", {}, {}, {}, {}), ("put", None, None),
        ("move", "a", "b"), ("put", "a", 1), ("load", "a", "b"), ("store", "a", "b"), ("nop",),
        (["alu"], "add", A, A, A), ({}, A, A), (None, A, A), (0, A, A),
        nested(100), nested(100, 1), nested_lists(100), ("put", A, nested(98)), ("put", nested(98), 1),
        ("alu", nested(98), A, A, A), ("move", ("reg", nested(97)), A), ("move", ("hid", nested(97)), A),
        (4, nested(98), 2, 1, 1, 16), (nested(98),) * 6, (nested(98),) * 3, (nested_lists(98),) * 3,
    ]
