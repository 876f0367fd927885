"""Lofts: the rows of a store done one by one, with bells heard between instructions."""

from steploft.errors import NoCells, NoLoft, NoName, NotStill
from steploft.machines import is_machine, is_state, row_done
from steploft.programs import row_behind
from steploft.stores import is_store
from steploft.ways import word_limit

ROWS = 100


class Loft:
    """A machine that runs the instructions of a store."""

    def __init__(self, machine, store, *, state=None):
        if not is_machine(machine):
            raise NoLoft("a loft is made with a machine")
        if not is_store(machine, store):
            raise NoLoft("a loft is made with a store whose rows are for its machine")
        if state is not None and not is_state(machine, state):
            raise NoLoft("a loft is made with a state of its machine")
        self.machine = machine
        self.rows = store[0]
        self.starts = dict(store[1])
        self.now = blank_state(machine) if state is None else state
        self.names = []
        # The number of the row to do of the instruction in hand; None where none is in hand.
        self.at = None
        self.trapped = False
        self.rung = []
        self.entries = []
        self.counted = 0

    def do(self, name):
        """Lets the instruction of this name wait; or NoName."""
        if name not in self.starts:
            raise NoName(name)
        self.names.append(name)

    def go(self, *, rows=ROWS):
        """Does so many rows, if there are so many to do; told is how many."""
        many = 0
        while many < rows and self.step():
            many += 1
        return many

    def step(self):
        """Does one row, if there is one to do; told is whether it did."""
        if self.trapped or len(self.names) == 0:
            return False
        if self.at is None:
            self.at = self.starts[self.names[0]]
        orders, onward = self.rows[self.at]
        state = row_done(self.machine, self.now, orders)
        if state[0] == "trap":
            self.trapped = True
            self.entries.append(("trap", self.names[0], state[1]))
            return False
        self.now = state
        self.counted += 1
        if onward[0] == "end":
            self.entries.append(("done", self.names.pop(0)))
            self.put_down()
        else:
            self.at = row_behind(self.machine, state, onward)
        return True

    def ring(self, number):
        """Rings a bell, which waits until no instruction is in hand."""
        self.rung.append(number)
        if self.at is None:
            self.hear()

    def hear(self):
        """Hears all bells that wait."""
        self.entries.extend([("bell", number, self.now[0]) for number in self.rung])
        self.rung = []

    def put_down(self):
        """Takes the instruction out of hand, and hears the bells that waited for that."""
        self.at = None
        self.trapped = False
        self.hear()

    def mend(self, cells):
        """Makes the memory longer, behind a trap; the instruction begins anew. Or NotStill, NoCells."""
        self.must_be_still()
        many = self.machine[5] + cells
        if cells < 1 or many > word_limit(self.machine):
            raise NoCells("the memory can't be made longer by so many cells")
        visible, hidden, memory = self.now
        self.machine = self.machine[:5] + (many,)
        self.now = (visible, hidden, memory + (0,) * cells)
        self.put_down()

    def leave(self):
        """Leaves the instruction that trapped out; or NotStill."""
        self.must_be_still()
        self.entries.append(("left", self.names.pop(0)))
        self.put_down()

    def must_be_still(self):
        """Lets by what may be done behind a trap only; else NotStill."""
        if not self.trapped:
            raise NotStill("the loft does not stand still")

    def book(self):
        """What was, in its order: a new list."""
        return list(self.entries)

    def state(self):
        """The state as it is now."""
        return self.now

    def rows_done(self):
        """How many rows it did; those that trapped are none."""
        return self.counted

    def bells(self):
        """How many bells wait."""
        return len(self.rung)

    def waiting(self):
        """The names that wait, the one in hand the first: a new list."""
        return list(self.names)

    def is_still(self):
        """Whether it stands still, behind a trap."""
        return self.trapped

    def is_going(self):
        """Whether it is going: never, when it is asked, as it goes only while go is at work."""
        return False


def blank_state(machine):
    """The state of the machine with all words 0."""
    return ((0,) * len(machine[1]), (0,) * machine[2], (0,) * machine[5])
