"""The written texts of orders, rows and machines."""

from steploft.errors import NoText
from steploft.machines import is_machine, is_row
from steploft.ways import FORMS, number_read, order_text, place_read

NO_ORDERS = "nop"
AHEAD_OF_REGISTERS = 3
BEHIND_REGISTERS = 8


def show_order(order):
    """The written text of an order."""
    return order_text(order)


def show_row(orders):
    """The written text of a row's orders."""
    if len(orders) == 0:
        return NO_ORDERS
    return " / ".join([order_text(order) for order in orders])


def show_machine(machine):
    """The written text of a machine."""
    bits, registers, hidden, alus, moves, cells = machine
    names = " ".join(registers)
    return f"bits {bits} registers {names} hidden {hidden} alus {alus} moves {moves} cells {cells}"


def read_row(machine, text):
    """The row's orders that are written so; else NoText."""
    orders = orders_read(text)
    if not is_row(machine, orders):
        raise NoText(1)
    return orders


def orders_read(text):
    """A tuple with an order, or what is none, for each part of a row's text."""
    if text == NO_ORDERS:
        return ()
    return tuple([order_read(part) for part in text.split(" / ")])


def order_read(text):
    """The order that would be written so, whether or not a machine has its parts; None where none is."""
    kind, *words = text.split(" ")
    if kind not in FORMS or len(words) != len(FORMS[kind]):
        return None
    parts = [part_read(form, word) for form, word in zip(FORMS[kind], words)]
    return (kind, *parts)


def part_read(form, word):
    """A part of an order off its word."""
    if form == "op":
        return word
    if form == "word":
        return number_read(word)
    return place_read(word)


def read_machine(text):
    """The machine that is written so; else NoText."""
    machine = machine_read(text)
    # Written again, the machine shows whether the words between its parts were the right ones.
    if not is_machine(machine) or show_machine(machine) != text:
        raise NoText(1)
    return machine


def machine_read(text):
    """A machine off the places that its parts have in a text; None where the text is too short."""
    words = text.split(" ")
    if len(words) <= AHEAD_OF_REGISTERS + BEHIND_REGISTERS:
        return None
    # A register may be called hidden or cells, so its place tells it, not its name.
    registers = tuple(words[AHEAD_OF_REGISTERS:-BEHIND_REGISTERS])
    hidden, alus, moves, cells = [number_read(words[at]) for at in (-7, -5, -3, -1)]
    return (number_read(words[1]), registers, hidden, alus, moves, cells)
