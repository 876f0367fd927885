"""What the other modules share: numbers, names, words, places, and the forms of orders."""

LETTERS = "abcdefghijklmnopqrstuvwxyz"
FIGURES = "0123456789"
MOST_LETTERS = 8
MOST_FIGURES = 9
MOST_LEVELS = 6

OPS = ("add", "sub", "and", "or", "xor", "less", "same")
KINDS = ("alu", "move", "put", "load", "store")
FORMS = {
    "alu": ("op", "place", "place", "place"),
    "move": ("place", "place"),
    "put": ("place", "word"),
    "load": ("place", "place"),
    "store": ("place", "place"),
}


def is_whole(thing):
    """Whether the thing is a whole number; truths are none."""
    return isinstance(thing, int) and not isinstance(thing, bool)


def is_between(thing, low, high):
    """Whether the thing is a whole number from low to high."""
    return is_whole(thing) and low <= thing <= high


def is_name(thing):
    """Whether the thing is a text of one to eight small letters."""
    if not isinstance(thing, str) or not 1 <= len(thing) <= MOST_LETTERS:
        return False
    return all(sign in LETTERS for sign in thing)


def is_tuple_of(thing, many):
    """Whether the thing is a tuple of so many parts."""
    return isinstance(thing, tuple) and len(thing) == many


def head_of(thing):
    """The text that a tuple begins with; an empty one of anything else."""
    if not isinstance(thing, tuple) or len(thing) == 0 or not isinstance(thing[0], str):
        return ""
    return thing[0]


def word_limit(machine):
    """The first number that is no word of the machine."""
    return 1 << machine[0]


def is_word(machine, thing):
    """Whether the thing is a word of the machine."""
    return is_between(thing, 0, word_limit(machine) - 1)


def has_name(machine, thing):
    """Whether the thing is the name of a visible place of the machine."""
    return isinstance(thing, str) and thing in machine[1]


def is_place(machine, thing):
    """Whether the thing is a place of the machine."""
    if not is_tuple_of(thing, 2) or not isinstance(thing[0], str):
        return False
    kind, which = thing
    if kind == "reg":
        return has_name(machine, which)
    return kind == "hid" and is_between(which, 0, machine[2] - 1)


def is_op(thing):
    """Whether the thing is what an alu can do."""
    return isinstance(thing, str) and thing in OPS


def op_word(machine, op, one, other):
    """The word that the op makes of two words."""
    if op == "add":
        return (one + other) % word_limit(machine)
    if op == "sub":
        return (one - other) % word_limit(machine)
    if op == "and":
        return one & other
    if op == "or":
        return one | other
    if op == "xor":
        return one ^ other
    if op == "less":
        return int(one < other)
    return int(one == other)


def written_place(order):
    """The place that the order writes; None of a store, which writes a cell."""
    if order[0] == "store":
        return None
    return order[2] if order[0] == "alu" else order[1]


def place_text(place):
    """The written text of a place."""
    kind, which = place
    return which if kind == "reg" else f"h{which}"


def part_text(part):
    """The written text of a part of an order: a place, an op or a word."""
    return place_text(part) if isinstance(part, tuple) else str(part)


def order_text(order):
    """The written text of an order."""
    return " ".join([part_text(part) for part in order])


def order_key(order):
    """What orders are ordered by: the kind's rank, then the written text."""
    return (KINDS.index(order[0]), order_text(order))


def number_read(word):
    """The whole number that is written so; None where none is."""
    if not 1 <= len(word) <= MOST_FIGURES:
        return None
    if not all(sign in FIGURES for sign in word):
        return None
    if word[0] == "0" and word != "0":
        return None
    return int(word)


def place_read(word):
    """The place that would be written so, whether or not a machine has it."""
    # No register has a figure in its name, so h with a number is never one.
    if word.startswith("h"):
        which = number_read(word[1:])
        if which is not None:
            return ("hid", which)
    return ("reg", word)
