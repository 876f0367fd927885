"""How the orders of a list stand to one another, and which of them may be done first."""

from steploft.ways import written_place

# Stands for all cells at once, beside the places that orders read and write.
MEMORY = ("memory",)
UNITS = {"alu": "alu", "move": "move", "put": "move", "load": "memory", "store": "memory"}


def things_read(order):
    """The places that the order reads, and MEMORY where it reads a cell."""
    if order[0] == "alu":
        return order[3:]
    if order[0] == "put":
        return ()
    if order[0] == "store":
        return order[1:]
    return (order[2], MEMORY) if order[0] == "load" else (order[2],)


def thing_written(order):
    """The place that the order writes, or MEMORY."""
    return MEMORY if order[0] == "store" else written_place(order)


def is_behind(later, earlier):
    """Whether the later order of a list has to stand in a later row than the earlier one."""
    written = thing_written(earlier)
    return written in things_read(later) or written == thing_written(later)


def is_not_ahead(later, earlier):
    """Whether the later order of a list may stand in no earlier row than the earlier one."""
    written = thing_written(later)
    if written in things_read(earlier):
        return True
    return earlier[0] in ("load", "store") and written[0] == "reg"


def unit_room(machine, unit):
    """How many orders a row has room for at this unit."""
    if unit == "alu":
        return machine[3]
    return machine[4] if unit == "move" else 1


def many_bits(number):
    """How many bits of a number are 1."""
    many = 0
    while number != 0:
        number &= number - 1
        many += 1
    return many


class Ties:
    """The ties between the orders of a list. Sets of its orders are numbers: bit k is 1 where order k is in the set."""

    def __init__(self, machine, orders):
        units = [UNITS[order[0]] for order in orders]
        self.many = len(orders)
        self.room = [unit_room(machine, unit) for unit in units]
        self.mates = [sum(1 << k for k, other in enumerate(units) if other == unit) for unit in units]
        self.behind = [
            sum(1 << k for k, earlier in enumerate(orders[:at]) if is_behind(later, earlier))
            for at, later in enumerate(orders)]
        self.not_ahead = [
            sum(1 << k for k, earlier in enumerate(orders[:at]) if is_not_ahead(later, earlier))
            for at, later in enumerate(orders)]

    def everything(self):
        """The set of all orders."""
        return (1 << self.many) - 1

    def numbers(self, some):
        """The numbers of the orders in a set, rising."""
        return tuple([k for k in range(self.many) if (some >> k) & 1 == 1])

    def joins(self, row, k, left):
        """Whether a first row of the left orders stays one with order k, which no left one is to stand ahead of."""
        if (row >> k) & 1 == 1 or self.not_ahead[k] & left & ~row != 0:
            return False
        return many_bits(row & self.mates[k]) < self.room[k]

    def first_rows(self, left):
        """The full first rows of a set of left orders."""
        ready = [k for k in self.numbers(left) if self.behind[k] & left == 0]
        rows = [0]
        # An order can be tied to earlier ones alone, so the rising order tries each one when those are settled.
        for k in ready:
            rows = rows + [row | 1 << k for row in rows if self.joins(row, k, left)]
        return [row for row in rows if not any(self.joins(row, k, left) for k in ready)]
