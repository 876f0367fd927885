"""Machines, values and small builders that several tests use."""

import itertools

from steploft.machines import is_row, sorted_row

MACHINE = (4, ("a", "b"), 2, 2, 2, 10)
A = ("reg", "a")
B = ("reg", "b")
H0 = ("hid", 0)
H1 = ("hid", 1)
OPS = ("add", "sub", "and", "or", "xor", "less", "same")


def nested(many, thing=()):
    """The thing within so many tuples."""
    for step in range(many):
        thing = (thing,)
    return thing


def nested_lists(many):
    thing = []
    for step in range(many):
        thing = [thing]
    return thing


class Plain:
    """A value of a kind that nobody told of."""


def anything():
    """Values that are no machine, order, row of one order or state."""
    return [
        None, True, False, 0, 1, -1, 10 ** 8, 1.0, 1j, "", "a", "alu", "nop", "bits 4", b"", b"alu",
        [], [1], {}, {"a": 1}, set(), frozenset([1]), Plain(), Plain, len, range(3), iter([]),
        (None,), (True,), (0,), ("",), ("alu",), ("put",), (b"put",), ([],), ({},), (set(),), ((),), ((), ()),
        ([], []), ((), (), ()), ([], [], []), (1, 2), (1, 2, 3), (1, 2, 3, 4, 5), (1, 2, 3, 4, 5, 6),
        ("alu", "add"), ("alu", [], [], [], []), ("alu", {}, {}, {}, {}), ("put", None, None),
        ("move", "a", "b"), ("put", "a", 1), ("load", "a", "b"), ("store", "a", "b"), ("nop",),
        (["alu"], "add", A, A, A), ({}, A, A), (None, A, A), (0, A, A),
        nested(100), nested(100, 1), nested_lists(100), ("put", A, nested(98)), ("put", nested(98), 1),
        ("alu", nested(98), A, A, A), ("move", ("reg", nested(97)), A), ("move", ("hid", nested(97)), A),
        (4, nested(98), 2, 1, 1, 16), (nested(98),) * 6, (nested(98),) * 3, (nested_lists(98),) * 3,
    ]


def some_state(rng, machine):
    """A state of the machine by chance, the hidden words too."""
    words = [tuple(rng.randrange(2 ** machine[0]) for k in range(many))
             for many in (len(machine[1]), machine[2], machine[5])]
    return tuple(words)


def places_of(machine):
    return [("reg", name) for name in machine[1]] + [("hid", k) for k in range(machine[2])]


def some_order(rng, machine, kinds=("alu", "move", "put", "load", "store")):
    """An order for the machine by chance."""
    places = places_of(machine)
    kind = rng.choice(kinds)
    if kind == "alu":
        return ("alu", rng.choice(OPS), rng.choice(places), rng.choice(places), rng.choice(places))
    if kind == "put":
        return ("put", rng.choice(places), rng.randrange(2 ** machine[0]))
    return (kind, rng.choice(places), rng.choice(places))


def some_term(rng, machine, levels):
    """A term of at most so many levels by chance."""
    kind = rng.randrange(7) if levels > 1 else rng.randrange(2)
    if kind == 0:
        return ("reg", rng.choice(machine[1]))
    if kind == 1:
        return ("num", rng.randrange(2 ** machine[0]))
    if kind == 2:
        return ("load", some_term(rng, machine, levels - 1))
    return (rng.choice(OPS), some_term(rng, machine, levels - 1), some_term(rng, machine, levels - 1))


def some_meaning(rng, machine, levels):
    """A meaning of at most so many levels by chance."""
    if levels > 2 and rng.randrange(5) < 2:
        test = some_term(rng, machine, min(levels - 1, rng.choice((1, 2, 3))))
        return ("if", test, some_meaning(rng, machine, levels - 1), some_meaning(rng, machine, levels - 1))
    if levels < 2:
        return ("do", (), ())
    names = rng.sample(machine[1], rng.randrange(len(machine[1]) + 1))
    most = min(levels - 1, rng.choice((1, 2, 3)))
    sets = tuple((name, some_term(rng, machine, most)) for name in names)
    stores = ((some_term(rng, machine, most), some_term(rng, machine, most)),) if rng.randrange(3) == 0 else ()
    return ("do", sets, stores)


def levels_of(thing):
    """The levels of a meaning or a term, counted by themselves."""
    if thing[0] in ("reg", "num"):
        return 1
    if thing[0] == "do":
        terms = [term for name, term in thing[1]] + [term for pair in thing[2] for term in pair]
        return 1 + max([levels_of(term) for term in terms], default=0)
    return 1 + max(levels_of(part) for part in thing[1:])


def reads_and_writes(order):
    """What an order reads and writes, as [14] tells it, the memory being called memory."""
    kind = order[0]
    if kind == "alu":
        return {order[3], order[4]}, {order[2]}
    if kind == "put":
        return set(), {order[1]}
    if kind == "move":
        return {order[2]}, {order[1]}
    if kind == "load":
        return {order[2], "memory"}, {order[1]}
    return {order[1], order[2]}, {"memory"}


def must_be_behind(earlier, later):
    (reads, writes), (late_reads, late_writes) = reads_and_writes(earlier), reads_and_writes(later)
    return bool(writes & late_reads or writes & late_writes)


def must_not_be_ahead(earlier, later):
    reads, writes = reads_and_writes(earlier)
    late_reads, late_writes = reads_and_writes(later)
    if reads & late_writes:
        return True
    return earlier[0] in ("load", "store") and any(thing[0] == "reg" for thing in late_writes)


def plain_holds(machine, orders, rows):
    """[14] by its words: whether there is a way to lay each order of the list into the rows."""
    if not all(row and is_row(machine, row) for row in rows):
        return False
    laid = [(order, at) for at, row in enumerate(rows) for order in row]
    if len(laid) != len(orders):
        return False
    for way in itertools.permutations(laid):
        if [order for order, at in way] == orders and stands_right(orders, [at for order, at in way]):
            return True
    return False


def stands_right(orders, numbers):
    """Whether orders of a list may stand in the rows of these numbers, the units aside."""
    for early, late in itertools.combinations(range(len(orders)), 2):
        if must_be_behind(orders[early], orders[late]) and numbers[late] <= numbers[early]:
            return False
        if must_not_be_ahead(orders[early], orders[late]) and numbers[late] < numbers[early]:
            return False
    return True


def plain_fewest(machine, orders):
    """The fewest rows that hold a list, by going through all ways to lay its orders into rows."""
    for many in range(len(orders) + 1):
        for numbers in itertools.product(range(many), repeat=len(orders)):
            if stands_right(orders, numbers) and has_room(machine, orders, numbers):
                return many


def has_room(machine, orders, numbers):
    """Whether each row that is told by these numbers has a unit for each of its orders."""
    for number in set(numbers):
        kinds = [order[0] for order, at in zip(orders, numbers) if at == number]
        if kinds.count("alu") > machine[3] or kinds.count("move") + kinds.count("put") > machine[4]:
            return False
        if kinds.count("load") + kinds.count("store") > 1:
            return False
    return True


def some_row(rng, machine, many):
    """A row's orders by chance, of at most so many orders."""
    while True:
        orders = sorted_row({some_order(rng, machine) for k in range(rng.randrange(many + 1))})
        if is_row(machine, orders):
            return orders


def some_next(rng, machine, numbers):
    """A next by chance to rows of these numbers."""
    word = rng.choice(("end", "go", "go", "test", "test", "test")) if numbers else "end"
    if word == "end":
        return (word,)
    if word == "go":
        return (word, rng.choice(numbers))
    return (word, rng.choice(places_of(machine)), rng.choice(numbers), rng.choice(numbers))


def some_program(rng, machine, many, choices=None):
    """A program of so many rows by chance; choices are the rows' orders to choose from."""
    rows = []
    for at in range(many):
        orders = rng.choice(choices) if choices else some_row(rng, machine, 3)
        rows.append((orders, some_next(rng, machine, range(at + 1, min(many, at + 6)))))
    return tuple(rows)


def shuffled(rng, rows):
    """The rows of a store in another order, with a list of the new numbers."""
    numbers = list(range(len(rows)))
    rng.shuffle(numbers)
    laid = [None] * len(rows)
    for at, (orders, onward) in enumerate(rows):
        ahead = onward[:2] if onward[0] == "test" else onward[:1]
        laid[numbers[at]] = (orders, ahead + tuple(numbers[k] for k in onward[len(ahead):]))
    return tuple(laid), numbers


def some_store(rng, machine, many, choices=None):
    """A store of so many rows by chance, like rows among them and rows that none comes to."""
    rows, numbers = shuffled(rng, some_program(rng, machine, many, choices))
    names = sorted(rng.sample(("a", "aa", "b", "start", "end", "nop", "z"), rng.randrange(1, 5)))
    return rows, tuple((name, rng.randrange(many)) for name in names)
