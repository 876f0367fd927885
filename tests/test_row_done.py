"""[4], [6], [7] and [10]: what a row does."""

import itertools
import unittest

from steploft.machines import is_state, row_done
from things import A, B, H0, H1, MACHINE

MEMORY = (9, 8, 7, 6, 5, 4, 3, 2, 1, 0)


def state_of(a=0, b=0, first=0, second=0, memory=MEMORY):
    return ((a, b), (first, second), memory)


class Ops(unittest.TestCase):
    def told(self, bits, op, one, other):
        machine = (bits, ("a", "b", "c"), 0, 1, 1, 0)
        order = ("alu", op, ("reg", "c"), A, B)
        visible, hidden, memory = row_done(machine, ((one, other, 0), (), ()), (order,))
        self.assertEqual((visible[:2], hidden, memory), ((one, other), (), ()))
        self.assertIs(type(visible[2]), int)
        return visible[2]

    def test_each_op_at_all_words(self):
        for bits in (1, 2, 3):
            limit = 2 ** bits
            for one, other in itertools.product(range(limit), repeat=2):
                self.assertEqual(self.told(bits, "add", one, other), (one + other) % limit)
                self.assertEqual(self.told(bits, "sub", one, other), (one - other) % limit)
                self.assertEqual(self.told(bits, "and", one, other), one & other)
                self.assertEqual(self.told(bits, "or", one, other), one | other)
                self.assertEqual(self.told(bits, "xor", one, other), one ^ other)
                self.assertEqual(self.told(bits, "less", one, other), 1 if one < other else 0)
                self.assertEqual(self.told(bits, "same", one, other), 1 if one == other else 0)

    def test_going_round(self):
        self.assertEqual(self.told(8, "add", 255, 1), 0)
        self.assertEqual(self.told(8, "add", 255, 255), 254)
        self.assertEqual(self.told(8, "sub", 0, 1), 255)
        self.assertEqual(self.told(8, "sub", 0, 255), 1)
        self.assertEqual(self.told(4, "add", 9, 9), 2)

    def test_ordinary_words(self):
        self.assertEqual(self.told(4, "and", 12, 10), 8)
        self.assertEqual(self.told(4, "or", 12, 10), 14)
        self.assertEqual(self.told(4, "xor", 12, 10), 6)

    def test_less_has_no_words_below_nought(self):
        self.assertEqual(self.told(4, "less", 15, 0), 0)
        self.assertEqual(self.told(4, "less", 0, 15), 1)
        self.assertEqual(self.told(4, "less", 7, 7), 0)


class Writes(unittest.TestCase):
    def done(self, state, *orders):
        told = row_done(MACHINE, state, orders)
        self.assertTrue(is_state(MACHINE, told))
        return told

    def test_no_orders(self):
        self.assertEqual(self.done(state_of(1, 2, 3, 4)), state_of(1, 2, 3, 4))

    def test_put_and_move(self):
        self.assertEqual(self.done(state_of(), ("put", B, 15)), state_of(b=15))
        self.assertEqual(self.done(state_of(), ("put", H1, 15)), state_of(second=15))
        self.assertEqual(self.done(state_of(a=3, b=4), ("move", H0, B)), state_of(3, 4, 4))
        self.assertEqual(self.done(state_of(first=3), ("move", A, H0)), state_of(3, 0, 3))

    def test_load_and_store(self):
        self.assertEqual(self.done(state_of(a=2), ("load", B, A)), state_of(2, 7))
        self.assertEqual(self.done(state_of(a=2), ("load", A, A)), state_of(7))
        memory = (9, 8, 12) + MEMORY[3:]
        self.assertEqual(self.done(state_of(a=2, b=12), ("store", A, B)), state_of(2, 12, memory=memory))
        memory = (9, 8, 2) + MEMORY[3:]
        self.assertEqual(self.done(state_of(first=2), ("store", H0, H0)), state_of(0, 0, 2, memory=memory))

    def test_all_read_ahead_of_the_row(self):
        swap = (("move", A, B), ("move", B, A))
        self.assertEqual(self.done(state_of(3, 4), *swap), state_of(4, 3))
        chain = (("alu", "add", A, B, B), ("alu", "sub", B, A, H0), ("move", H0, A), ("put", H1, 9))
        self.assertEqual(self.done(state_of(3, 4, 1, 2), *chain), state_of(8, 2, 3, 9))

    def test_a_load_reads_the_old_place(self):
        self.assertEqual(self.done(state_of(a=1), ("put", A, 5), ("load", B, A)), state_of(5, 8))

    def test_a_store_reads_the_old_places(self):
        memory = (9, 4) + MEMORY[2:]
        told = self.done(state_of(1, 4), ("put", A, 5), ("put", B, 6), ("store", A, B))
        self.assertEqual(told, state_of(5, 6, memory=memory))

    def test_order_of_reading_is_the_same_backwards(self):
        orders = (("alu", "add", A, B, B), ("move", B, A), ("put", H0, 1))
        state = state_of(5, 6, 7, 8)
        self.assertEqual(row_done(MACHINE, state, orders), row_done(MACHINE, state, orders[::-1]))

    def test_registers_by_their_names(self):
        machine = (4, ("z", "put", "a"), 0, 1, 1, 0)
        told = row_done(machine, ((1, 2, 3), (), ()), (("move", ("reg", "z"), ("reg", "a")),))
        self.assertEqual(told, ((3, 2, 3), (), ()))


class Traps(unittest.TestCase):
    def test_the_last_cell_and_the_first_number_beyond(self):
        last = state_of(a=9, b=3)
        self.assertEqual(row_done(MACHINE, last, (("load", B, A),)), state_of(9, 0))
        self.assertEqual(row_done(MACHINE, last, (("store", A, B),)), state_of(9, 3, memory=MEMORY[:9] + (3,)))
        for word in range(10, 16):
            beyond = state_of(a=word, b=3)
            self.assertEqual(row_done(MACHINE, beyond, (("load", B, A),)), ("trap", word))
            self.assertEqual(row_done(MACHINE, beyond, (("store", A, B),)), ("trap", word))

    def test_the_word_of_a_store_does_not_trap(self):
        state = state_of(a=0, b=15)
        self.assertEqual(row_done(MACHINE, state, (("store", A, B),)), state_of(0, 15, memory=(15,) + MEMORY[1:]))

    def test_a_row_that_traps_writes_nothing(self):
        state = state_of(a=12, b=3)
        beside = (("alu", "add", B, A, B), ("move", H0, A), ("put", A, 1))
        self.assertEqual(row_done(MACHINE, state, beside + (("load", H1, A),)), ("trap", 12))
        self.assertEqual(row_done(MACHINE, state, beside + (("store", A, B),)), ("trap", 12))
        self.assertEqual(state, state_of(a=12, b=3))

    def test_what_the_row_puts_does_not_mend_it(self):
        state = state_of(first=11)
        self.assertEqual(row_done(MACHINE, state, (("put", H0, 0), ("load", A, H0))), ("trap", 11))

    def test_what_the_row_puts_does_not_break_it(self):
        state = state_of(first=1)
        self.assertEqual(row_done(MACHINE, state, (("put", H0, 15), ("load", A, H0))), state_of(8, 0, 15))

    def test_no_cells(self):
        machine = (2, ("a", "b"), 0, 1, 1, 0)
        for word in range(4):
            state = ((word, 1), (), ())
            self.assertEqual(row_done(machine, state, (("load", B, A),)), ("trap", word))
            self.assertEqual(row_done(machine, state, (("put", B, 0), ("store", A, B))), ("trap", word))
        self.assertEqual(row_done(machine, ((0, 1), (), ()), (("put", A, 3),)), ((3, 1), (), ()))

    def test_as_many_cells_as_words(self):
        machine = (2, ("a", "b"), 0, 1, 1, 4)
        for word in range(4):
            told = row_done(machine, ((word, 1), (), (3, 2, 1, 0)), (("load", B, A),))
            self.assertEqual(told, ((word, 3 - word), (), (3, 2, 1, 0)))


if __name__ == "__main__":
    unittest.main()
