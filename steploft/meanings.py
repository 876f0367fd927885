"""Meanings: what they are, what they do from a state, and their written texts."""

from steploft.errors import NoText
from steploft.scanning import meaning_read
from steploft.ways import MOST_LEVELS, has_name, head_of, is_op, is_place, is_tuple_of, is_word, op_word

NOTHING_DONE = "nop"


def is_meaning(machine, thing):
    """Whether the thing, anything, is a meaning for the machine."""
    return is_done(machine, thing, 1)


def is_done(machine, thing, level):
    """Whether the thing is what a meaning of the machine may do at this level."""
    # Asked ahead of all else, the level ends the way down into anything.
    if level > MOST_LEVELS:
        return False
    head = head_of(thing)
    if head == "do" and len(thing) == 3:
        return are_sets(machine, thing[1], level + 1) and are_stores(machine, thing[2], level + 1)
    if head == "if" and len(thing) == 4:
        if not is_term(machine, thing[1], level + 1):
            return False
        return is_done(machine, thing[2], level + 1) and is_done(machine, thing[3], level + 1)
    return False


def are_sets(machine, thing, level):
    """Whether the thing is a do's sets, their terms at this level."""
    if not isinstance(thing, tuple) or not all(is_tuple_of(pair, 2) for pair in thing):
        return False
    names = [pair[0] for pair in thing]
    if not all(has_name(machine, name) for name in names) or len(set(names)) != len(names):
        return False
    return all(is_term(machine, pair[1], level) for pair in thing)


def are_stores(machine, thing, level):
    """Whether the thing is a do's stores, none or one, their terms at this level."""
    if not isinstance(thing, tuple) or len(thing) > 1:
        return False
    if not all(is_tuple_of(pair, 2) for pair in thing):
        return False
    return all(is_term(machine, term, level) for pair in thing for term in pair)


def is_term(machine, thing, level):
    """Whether the thing is a term for the machine that may stand at this level."""
    if level > MOST_LEVELS:
        return False
    head = head_of(thing)
    if head == "reg":
        return is_place(machine, thing)
    if head == "num":
        return len(thing) == 2 and is_word(machine, thing[1])
    if head == "load":
        return len(thing) == 2 and is_term(machine, thing[1], level + 1)
    if not is_op(head) or len(thing) != 3:
        return False
    return is_term(machine, thing[1], level + 1) and is_term(machine, thing[2], level + 1)


def meant(machine, meaning, state):
    """The visible part behind a meaning, (visible, memory), or ("trap",)."""
    while meaning[0] == "if":
        word = term_word(machine, meaning[1], state)
        if word is None:
            return ("trap",)
        meaning = meaning[2] if word != 0 else meaning[3]
    return do_meant(machine, meaning, state)


def do_meant(machine, meaning, state):
    """The visible part behind a do, or ("trap",)."""
    visible, memory = list(state[0]), list(state[2])
    for name, term in meaning[1]:
        word = term_word(machine, term, state)
        if word is None:
            return ("trap",)
        visible[machine[1].index(name)] = word
    for pair in meaning[2]:
        cell, word = [term_word(machine, term, state) for term in pair]
        if cell is None or word is None or cell >= machine[5]:
            return ("trap",)
        memory[cell] = word
    return (tuple(visible), tuple(memory))


def term_word(machine, term, state):
    """The word of a term ahead of all that is done; None where it traps."""
    if term[0] == "reg":
        return state[0][machine[1].index(term[1])]
    if term[0] == "num":
        return term[1]
    words = [term_word(machine, part, state) for part in term[1:]]
    if None in words:
        return None
    if term[0] == "load":
        return state[2][words[0]] if words[0] < machine[5] else None
    return op_word(machine, term[0], words[0], words[1])


def show_meaning(meaning):
    """The written text of a meaning."""
    if meaning[0] == "if":
        test, one, other = term_text(meaning[1]), show_meaning(meaning[2]), show_meaning(meaning[3])
        return "if " + test + " then { " + one + " } else { " + other + " }"
    parts = [f"{name} = {term_text(term)}" for name, term in meaning[1]]
    parts += [f"[{term_text(cell)}] = {term_text(word)}" for cell, word in meaning[2]]
    return " ; ".join(parts) if parts else NOTHING_DONE


def term_text(term):
    """The written text of a term."""
    if term[0] in ("reg", "num"):
        return str(term[1])
    if term[0] == "load":
        return f"[{term_text(term[1])}]"
    return f"({term_text(term[1])} {term[0]} {term_text(term[2])})"


def read_meaning(machine, text):
    """The meaning that is written so; else NoText."""
    meaning = meaning_read(text)
    # Written again, the meaning shows whether blanks and brackets stood where they must.
    if not is_meaning(machine, meaning) or show_meaning(meaning) != text:
        raise NoText(1)
    return meaning
