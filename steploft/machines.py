"""Machines, orders, rows and states, and what a row does."""

from steploft.ways import FORMS, is_between, is_name, is_op, is_place, is_tuple_of, is_word
from steploft.ways import op_word, order_key, word_limit, written_place

MOST_BITS = 8
MOST_REGISTERS = 6
MOST_HIDDEN = 12
MOST_UNITS = 3


def is_machine(thing):
    """Whether the thing, anything, is a machine."""
    if not is_tuple_of(thing, 6):
        return False
    bits, registers, hidden, alus, moves, cells = thing
    if not is_between(bits, 1, MOST_BITS) or not are_registers(registers):
        return False
    if not is_between(alus, 1, MOST_UNITS) or not is_between(moves, 1, MOST_UNITS):
        return False
    return is_between(hidden, 0, MOST_HIDDEN) and is_between(cells, 0, word_limit(thing))


def are_registers(thing):
    """Whether the thing is a tuple of one to six unlike names."""
    if not isinstance(thing, tuple) or not 1 <= len(thing) <= MOST_REGISTERS:
        return False
    if not all(is_name(name) for name in thing):
        return False
    return len(set(thing)) == len(thing)


def is_order(machine, thing):
    """Whether the thing, anything, is an order for the machine."""
    if not isinstance(thing, tuple) or len(thing) == 0 or not isinstance(thing[0], str):
        return False
    if thing[0] not in FORMS:
        return False
    forms = FORMS[thing[0]]
    parts = thing[1:]
    if len(parts) != len(forms):
        return False
    return all(fits(machine, form, part) for form, part in zip(forms, parts))


def fits(machine, form, part):
    """Whether a part of an order has the form that its place in the order asks for."""
    if form == "op":
        return is_op(part)
    if form == "word":
        return is_word(machine, part)
    return is_place(machine, part)


def is_row(machine, thing):
    """Whether the thing, anything, is a row's orders for the machine."""
    if not isinstance(thing, tuple):
        return False
    if not all(is_order(machine, order) for order in thing):
        return False
    return is_rising(thing) and has_units(machine, thing) and writes_apart(thing)


def is_rising(orders):
    """Whether the orders stand by their order, none twice."""
    keys = [order_key(order) for order in orders]
    return all(one < other for one, other in zip(keys, keys[1:]))


def has_units(machine, orders):
    """Whether the machine has a unit for each of the orders."""
    alus, moves = machine[3], machine[4]
    if many_of(orders, ("alu",)) > alus or many_of(orders, ("move", "put")) > moves:
        return False
    return many_of(orders, ("load", "store")) <= 1


def many_of(orders, kinds):
    """How many of the orders are of these kinds."""
    return len([order for order in orders if order[0] in kinds])


def writes_apart(orders):
    """Whether no two of the orders write the same place."""
    places = [written_place(order) for order in orders if order[0] != "store"]
    return len(set(places)) == len(places)


def sorted_row(orders):
    """A row's orders, by their order, of a list of unlike ones."""
    return tuple(sorted(orders, key=order_key))


def is_state(machine, thing):
    """Whether the thing, anything, is a state of the machine."""
    if not is_tuple_of(thing, 3):
        return False
    visible, hidden, memory = thing
    if not are_words(machine, visible, len(machine[1])):
        return False
    return are_words(machine, hidden, machine[2]) and are_words(machine, memory, machine[5])


def are_words(machine, thing, many):
    """Whether the thing is a tuple of so many words of the machine."""
    return is_tuple_of(thing, many) and all(is_word(machine, word) for word in thing)


def row_done(machine, state, orders):
    """The state behind a row's orders, or ("trap", n)."""
    stray = stray_cell(machine, state, orders)
    if stray is not None:
        return ("trap", stray)
    visible, hidden, memory = list(state[0]), list(state[1]), list(state[2])
    # Words are read off the old state alone, as all orders of a row read ahead of it.
    for order in orders:
        word = word_written(machine, state, order)
        if order[0] == "store":
            memory[word_at(machine, state, order[1])] = word
            continue
        kind, which = written_place(order)
        if kind == "reg":
            visible[machine[1].index(which)] = word
        else:
            hidden[which] = word
    return (tuple(visible), tuple(hidden), tuple(memory))


def word_at(machine, state, place):
    """The word that stands at a place."""
    kind, which = place
    return state[0][machine[1].index(which)] if kind == "reg" else state[1][which]


def stray_cell(machine, state, orders):
    """The word by which a load or a store misses the memory; None where none does."""
    for order in orders:
        if order[0] in ("load", "store"):
            cell = word_at(machine, state, order[2] if order[0] == "load" else order[1])
            if cell >= machine[5]:
                return cell
    return None


def word_written(machine, state, order):
    """The word that the order writes."""
    if order[0] == "put":
        return order[2]
    if order[0] == "alu":
        one, other = word_at(machine, state, order[3]), word_at(machine, state, order[4])
        return op_word(machine, order[1], one, other)
    word = word_at(machine, state, order[2])
    return state[2][word] if order[0] == "load" else word
