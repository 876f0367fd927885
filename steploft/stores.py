"""Stores of programs, the words that part their rows, and the texts of programs and stores."""

from steploft.errors import NoRow, NoText
from steploft.machines import is_row
from steploft.programs import MOST_ROWS, goes_on, rows_named
from steploft.texts import orders_read, show_row
from steploft.ways import is_between, is_name, is_tuple_of, number_read, place_read, place_text

MOST_STORED = 400
START = "start"


def is_store(machine, thing):
    """Whether the thing, anything, is a store for the machine."""
    if not is_tuple_of(thing, 2):
        return False
    rows, starts = thing
    return are_stored(machine, rows) and are_starts(starts, len(rows))


def are_stored(machine, thing):
    """Whether the thing is the rows of a store for the machine."""
    if not isinstance(thing, tuple) or not 1 <= len(thing) <= MOST_STORED:
        return False
    if not all(is_tuple_of(row, 2) and is_row(machine, row[0]) for row in thing):
        return False
    if not all(goes_on(machine, row[1], 0, len(thing) - 1) for row in thing):
        return False
    return not has_ring(thing)


def are_starts(thing, many):
    """Whether the thing is the starts of a store with so many rows."""
    if not isinstance(thing, tuple) or len(thing) == 0:
        return False
    if not all(is_start(start, many) for start in thing):
        return False
    return all(one[0] < other[0] for one, other in zip(thing, thing[1:]))


def is_start(thing, many):
    """Whether the thing is a start in a store with so many rows."""
    return is_tuple_of(thing, 2) and is_name(thing[0]) and is_between(thing[1], 0, many - 1)


def has_ring(rows):
    """Whether by nexts a row leads back to itself."""
    ahead = [0] * len(rows)
    for orders, onward in rows:
        for number in rows_named(onward):
            ahead[number] += 1
    free = [number for number, many in enumerate(ahead) if many == 0]
    taken = 0
    # Rows that no row is left ahead of are taken away; those of a ring never are.
    while free:
        taken += 1
        orders, onward = rows[free.pop()]
        for number in rows_named(onward):
            ahead[number] -= 1
            if ahead[number] == 0:
                free.append(number)
    return taken < len(rows)


def closes_ring(rows, at):
    """Whether a row leads back to itself by the rows that are there, others being still to come."""
    seen = set()
    todo = list(rows_named(rows[at][1]))
    while todo:
        number = todo.pop()
        if number == at:
            return True
        if number < len(rows) and number not in seen:
            seen.add(number)
            todo.extend(rows_named(rows[number][1]))
    return False


def lacks_row(rows):
    """Whether a next names a row that is not there."""
    return any(number >= len(rows) for orders, onward in rows for number in rows_named(onward))


def store_of(programs):
    """The store of a dict from names to programs, like rows laid once."""
    names = sorted(programs)
    kinds = {}
    heads = [first_kind(programs[name], kinds) for name in names]
    unlike = list(kinds)
    numbers = numbered(unlike, heads)
    rows = [(unlike[kind][0], renamed(unlike[kind][1], numbers)) for kind in numbers]
    return (tuple(rows), tuple(zip(names, [numbers[head] for head in heads])))


def first_kind(program, kinds):
    """The kind of a program's row 0; like rows are of one kind, and new kinds are added to those found."""
    found = {}
    # From the last row on, as a row's kind hangs on those of the later rows that it goes on with.
    for at in reversed(range(len(program))):
        orders, onward = program[at]
        found[at] = kinds.setdefault((orders, renamed(onward, found)), len(kinds))
    return found[0]


def renamed(onward, numbers):
    """A next with other numbers for its rows."""
    behind = [numbers[number] for number in rows_named(onward)]
    return onward[:len(onward) - len(behind)] + tuple(behind)


def numbered(rows, heads):
    """The new numbers of the rows that are come to from the heads, in the order in which they are first come to."""
    numbers = {}
    for head in heads:
        todo = [head]
        while todo:
            at = todo.pop()
            if at not in numbers:
                numbers[at] = len(numbers)
                # What is put down last is gone down first, so l stands below k.
                todo.extend(rows_named(rows[at][1])[::-1])
    return numbers


def parted(store, one, other):
    """The shortest word that parts two rows, the first by the order of tuples; None where none does; or NoRow."""
    rows = store[0]
    for number in (one, other):
        if not is_between(number, 0, len(rows) - 1):
            raise NoRow("the store has no row of this number")
    seen = set()
    level = [((one, other), ())]
    while level:
        longer = []
        # The words of one length are gone through from the end, where the first of them stands.
        while level:
            pair, word = level.pop()
            if pair in seen:
                continue
            seen.add(pair)
            left, right = [rows[number] for number in pair]
            if face_of(left) != face_of(right):
                return word
            behind = list(zip(rows_named(left[1]), rows_named(right[1])))
            if left[1][0] == "go":
                level.append((behind[0], word))
            if left[1][0] == "test":
                longer += [(behind[1], word + (False,)), (behind[0], word + (True,))]
        level = longer[::-1]
    return None


def face_of(row):
    """What two rows are parted by at once: the orders, the word of next and the place tested."""
    orders, onward = row
    return (orders, onward[:2] if onward[0] == "test" else onward[:1])


def show_program(program):
    """The written text of a program."""
    return "".join([row_text(at, row) for at, row in enumerate(program)])


def show_store(store):
    """The written text of a store."""
    rows, starts = store
    return show_program(rows) + "".join([f"{START} {name} {number}\n" for name, number in starts])


def row_text(at, row):
    """The written text of a row with its number, ended by a line feed."""
    orders, onward = row
    return f"{at} {show_row(orders)} ; {next_text(onward)}\n"


def next_text(onward):
    """The written text of a row's next."""
    if onward[0] != "test":
        return " ".join([str(part) for part in onward])
    return f"test {place_text(onward[1])} {onward[2]} {onward[3]}"


def read_program(machine, text):
    """The program that is written so; else NoText."""
    rows = []
    for at, line in enumerate(lines_of(text)):
        row = row_read(machine, line, at, at + 1, MOST_ROWS)
        if row is None:
            raise NoText(at + 1)
        rows.append(row)
    if lacks_row(rows) or not text.endswith("\n"):
        raise NoText(len(rows) + 1)
    return tuple(rows)


def read_store(machine, text):
    """The store that is written so; else NoText."""
    rows, starts = [], []
    for at, line in enumerate(lines_of(text)):
        # A row begins with its number, so only a start begins so, whatever places are called.
        if line.startswith(START):
            read_start(line, at, rows, starts)
        else:
            read_stored(machine, line, at, rows, starts)
    if len(starts) == 0 or not text.endswith("\n"):
        raise NoText(len(rows) + len(starts) + 1)
    return (tuple(rows), tuple(starts))


def read_start(line, at, rows, starts):
    """Adds the start that is written so to the starts; else NoText."""
    start = start_read(line)
    if not is_start(start, len(rows)) or lacks_row(rows):
        raise NoText(at + 1)
    if len(starts) > 0 and start[0] <= starts[-1][0]:
        raise NoText(at + 1)
    starts.append(start)


def read_stored(machine, line, at, rows, starts):
    """Adds the row that is written so to the rows of a store; else NoText."""
    row = row_read(machine, line, at, 0, MOST_STORED)
    if row is None or len(starts) > 0:
        raise NoText(at + 1)
    rows.append(row)
    if closes_ring(rows, at):
        raise NoText(at + 1)


def lines_of(text):
    """The rows of a text, whether or not the last one is ended."""
    lines = text.split("\n")
    return lines if lines[-1] != "" else lines[:-1]


def row_read(machine, line, at, low, most):
    """The row of the number at that is written so, where nexts are from low on below most; None where none is."""
    number, blank, rest = line.partition(" ")
    if at >= most or number_read(number) != at:
        return None
    text, mark, behind = rest.partition(" ; ")
    orders, onward = orders_read(text), next_read(behind)
    if not is_row(machine, orders) or not goes_on(machine, onward, low, most - 1):
        return None
    return (orders, onward)


def next_read(text):
    """The next that would be written so, or what is none."""
    words = text.split(" ")
    ahead = 1
    if words[0] == "test" and len(words) > 1:
        words[1] = place_read(words[1])
        ahead = 2
    return tuple(words[:ahead] + [number_read(word) for word in words[ahead:]])


def start_read(line):
    """The start that would be written so, or what is none."""
    word, *parts = line.split(" ")
    if word != START or len(parts) != 2:
        return None
    return (parts[0], number_read(parts[1]))
