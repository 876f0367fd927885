"""Programs: what they are, their runs, and the program that a meaning is turned into."""

from steploft.errors import NoRoom
from steploft.machines import is_row, row_done, word_at
from steploft.meanings import term_text
from steploft.packing import packed
from steploft.ways import head_of, is_between, is_place, is_tuple_of

MOST_ROWS = 300


def is_program(machine, thing):
    """Whether the thing, anything, is a program for the machine."""
    if not isinstance(thing, tuple) or not 1 <= len(thing) <= MOST_ROWS:
        return False
    if not all(is_tuple_of(row, 2) and is_row(machine, row[0]) for row in thing):
        return False
    return all(goes_on(machine, row[1], at + 1, len(thing) - 1) for at, row in enumerate(thing))


def goes_on(machine, thing, low, high):
    """Whether the thing is a row's next where it may name rows from low to high."""
    head = head_of(thing)
    if head == "end":
        return len(thing) == 1
    if head == "go":
        return len(thing) == 2 and is_between(thing[1], low, high)
    if head != "test" or len(thing) != 4 or not is_place(machine, thing[1]):
        return False
    return is_between(thing[2], low, high) and is_between(thing[3], low, high)


def run(machine, program, state):
    """The state behind the program's run, or ("trap", n)."""
    at = 0
    while True:
        orders, onward = program[at]
        state = row_done(machine, state, orders)
        if state[0] == "trap" or onward[0] == "end":
            return state
        at = row_behind(machine, state, onward)


def row_behind(machine, state, onward):
    """The number of the row that a go or a test goes on with from a state."""
    if onward[0] == "go":
        return onward[1]
    return onward[2] if word_at(machine, state, onward[1]) != 0 else onward[3]


def rows_named(onward):
    """The numbers of rows that a next names, in its order."""
    return onward[2:] if onward[0] == "test" else onward[1:]


def needs(meaning):
    """How many hidden places the meaning needs."""
    if meaning[0] == "if":
        return max(len(worked_terms([meaning[1]])), needs(meaning[2]), needs(meaning[3]))
    copies = [name for name, term in meaning[1] if term[0] == "reg"]
    return len(worked_terms(do_terms(meaning))) + len(copies)


def do_terms(meaning):
    """The terms that stand in a do."""
    return [term for name, term in meaning[1]] + [term for pair in meaning[2] for term in pair]


def worked_terms(terms):
    """The unlike terms within these that have to be worked out, each behind those within it."""
    found = {}
    for term in terms:
        find_worked(term, found)
    return list(found.values())


def find_worked(term, found):
    """Adds to found, by their texts, what has to be worked out for a term, what is within ahead of what is around."""
    if term[0] == "reg":
        return
    if term[0] != "num":
        for part in term[1:]:
            find_worked(part, found)
    found.setdefault(term_text(term), term)


def hidden_places(terms):
    """A hidden place for each of the worked terms, by their texts."""
    return {term_text(term): ("hid", k) for k, term in enumerate(terms)}


def place_of(term, places):
    """The place in which a term's word stands when it is worked out."""
    return term if term[0] == "reg" else places[term_text(term)]


def term_order(term, places):
    """The order that works out a term, those within it being worked out."""
    to = places[term_text(term)]
    if term[0] == "num":
        return ("put", to, term[1])
    parts = [place_of(part, places) for part in term[1:]]
    if term[0] == "load":
        return ("load", to, *parts)
    return ("alu", term[0], to, *parts)


def list_of_test(term):
    """The list of a test, and the place that is tested behind it."""
    terms = worked_terms([term])
    places = hidden_places(terms)
    return ([term_order(part, places) for part in terms], place_of(term, places))


def list_of_do(meaning):
    """The list of a do."""
    terms = worked_terms(do_terms(meaning))
    places = hidden_places(terms)
    orders = [term_order(term, places) for term in terms]
    moves = []
    for name, term in meaning[1]:
        held = place_of(term, places)
        if term[0] == "reg":
            held = ("hid", len(orders))
            orders.append(("move", held, term))
        moves.append(("move", ("reg", name), held))
    stores = [("store", place_of(cell, places), place_of(word, places)) for cell, word in meaning[2]]
    return orders + stores + moves


def turned(machine, meaning):
    """The program that does what the meaning says; or NoRoom, TooMany."""
    many = needs(meaning)
    if many > machine[2]:
        raise NoRoom(f"{many} hidden places are needed, the machine has {machine[2]}")
    return tuple(rows_of(machine, meaning, 0))


def rows_of(machine, meaning, start):
    """The rows that do what the meaning says, numbered from start on."""
    if meaning[0] == "do":
        return piece(packed(machine, list_of_do(meaning)), start, ("end",))
    orders, place = list_of_test(meaning[1])
    ahead = packed(machine, orders)
    first = start + max(1, len(ahead))
    one = rows_of(machine, meaning[2], first)
    second = first + len(one)
    other = rows_of(machine, meaning[3], second)
    return piece(ahead, start, ("test", place, first, second)) + one + other


def piece(packs, start, onward):
    """Rows of a program, numbered from start on, of which the last one goes on as told."""
    if len(packs) == 0:
        return [((), onward)]
    rows = [(orders, ("go", start + k + 1)) for k, orders in enumerate(packs[:-1])]
    return rows + [(packs[-1], onward)]
