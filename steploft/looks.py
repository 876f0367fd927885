"""Looks: where a program does otherwise than a meaning, and where it is not safe to begin anew."""

from steploft.errors import TooMany
from steploft.meanings import meant
from steploft.programs import rows_named, run
from steploft.ways import word_limit, written_place

MOST_BITS = 12


def differs(machine, meaning, program):
    """The first state from which the program does otherwise than the meaning; None where none is; or TooMany."""
    bits = machine[0] * (len(machine[1]) + machine[5])
    if bits > MOST_BITS:
        raise TooMany(f"{bits} bits are more than {MOST_BITS}")
    for number in range(1 << bits):
        state = state_of(machine, number)
        if visible_behind(machine, program, state) != meant(machine, meaning, state):
            return state
    return None


def state_of(machine, number):
    """The state of this number, from 0, by the order of tuples, all hidden words being 0."""
    words = []
    for step in range(len(machine[1]) + machine[5]):
        words.append(number % word_limit(machine))
        number //= word_limit(machine)
    # The lowest part of the number changes first, and so does the last word.
    words.reverse()
    many = len(machine[1])
    return (tuple(words[:many]), (0,) * machine[2], tuple(words[many:]))


def visible_behind(machine, program, state):
    """The visible part behind a program's run, or ("trap",)."""
    last = run(machine, program, state)
    return ("trap",) if last[0] == "trap" else (last[0], last[2])


def unsafe_way(machine, program):
    """The first way to a load or a store behind a write that is seen; None where there is none."""
    seen = set()
    todo = [((0,), False)]
    while todo:
        way, wrote = todo.pop()
        # What follows hangs on these two alone, so it is looked through just once.
        if (way[-1], wrote) in seen:
            continue
        seen.add((way[-1], wrote))
        orders, onward = program[way[-1]]
        if wrote and may_trap(orders):
            return way
        behind = sorted(rows_named(onward), reverse=True)
        todo.extend([(way + (number,), wrote or is_seen(orders)) for number in behind])
    return None


def may_trap(orders):
    """Whether there is a load or a store among a row's orders."""
    return any(order[0] in ("load", "store") for order in orders)


def is_seen(orders):
    """Whether a row's orders write a register of the machine, or store."""
    return any(order[0] == "store" or written_place(order)[0] == "reg" for order in orders)
