"""[15] and [4]: rows that hold a list and are as few as any."""

import itertools
import random
import unittest

from steploft.errors import LoftError, TooMany
from steploft.machines import is_row, row_done
from steploft.packing import holds_list, packed
from things import A, B, H0, H1, plain_fewest, some_order, some_state

C = ("reg", "c")
H2 = ("hid", 2)
WIDE = (4, ("a", "b", "c"), 12, 2, 2, 10)
SMALL = (2, ("a", "b"), 2, 1, 2, 3)


def puts(many):
    return [("put", ("hid", k), k) for k in range(many)]


def list_done(machine, state, orders):
    """The state behind the orders, done one behind the other, or the first trap."""
    for order in orders:
        state = row_done(machine, state, (order,))
        if state[0] == "trap":
            return state
    return state


def rows_done(machine, state, rows):
    for row in rows:
        state = row_done(machine, state, row)
        if state[0] == "trap":
            return state
    return state


class Fewest(unittest.TestCase):
    def many(self, orders, machine=WIDE):
        rows = packed(machine, orders)
        self.assertIsInstance(rows, list)
        self.assertTrue(holds_list(machine, orders, rows), (orders, rows))
        self.assertTrue(all(isinstance(row, tuple) and is_row(machine, row) for row in rows), rows)
        return len(rows)

    def test_none_and_one(self):
        self.assertEqual(packed(WIDE, []), [])
        for order in (("alu", "add", A, A, B), ("move", A, B), ("put", A, 1), ("load", A, B), ("store", A, B)):
            self.assertEqual(packed(WIDE, [order]), [(order,)])

    def test_units(self):
        for moves in (1, 2, 3):
            for many in range(11):
                machine = (4, ("a",), 12, 1, moves, 10)
                self.assertEqual(self.many(puts(many), machine), -(-many // moves))
        for alus in (1, 2, 3):
            for many in range(11):
                machine = (4, ("a",), 12, alus, 1, 10)
                orders = [("alu", "add", ("hid", k), A, A) for k in range(many)]
                self.assertEqual(self.many(orders, machine), -(-many // alus))
        self.assertEqual(self.many([("load", ("hid", k), A) for k in range(10)]), 10)

    def test_all_units_in_one_row(self):
        orders = [("put", H0, 1), ("move", H1, A), ("alu", "add", H2, A, B), ("alu", "sub", ("hid", 3), A, B),
                  ("load", ("hid", 4), A)]
        self.assertEqual(self.many(orders), 1)

    def test_a_chain(self):
        orders = [("alu", "add", A, A, B)] * 10
        self.assertEqual(packed(WIDE, orders), [(orders[0],)] * 10)

    def test_an_exchange_in_one_row(self):
        orders = [("move", A, B), ("put", B, 1)]
        self.assertEqual(packed(WIDE, orders), [tuple(orders)])

    def test_the_greedy_way_is_not_enough(self):
        # The chain from the last put is the longest; first come, first laid would begin it late.
        machine = (4, ("a", "b", "c"), 12, 1, 1, 10)
        orders = [("put", ("hid", 5), 1), ("put", ("hid", 6), 1), ("put", H0, 1), ("alu", "add", H1, H0, H0),
                  ("alu", "add", H2, H1, H1), ("alu", "add", ("hid", 3), H2, H2)]
        self.assertEqual(self.many(orders, machine), 4)

    def test_against_going_through_all(self):
        rng = random.Random(16)
        for machine in (SMALL, (2, ("a", "b", "c"), 3, 2, 1, 3), (2, ("a", "b"), 4, 3, 3, 4)):
            for step in range(250):
                orders = [some_order(rng, machine) for k in range(rng.randrange(6 if step % 10 == 0 else 5))]
                self.assertEqual(self.many(orders, machine), plain_fewest(machine, orders), orders)

    def test_all_lists_of_a_few_orders(self):
        machine = (1, ("a", "b"), 1, 1, 1, 2)
        some = (("put", A, 1), ("move", B, A), ("move", H0, B), ("alu", "add", H0, A, A), ("load", A, B),
                ("load", H0, H0), ("store", A, H0))
        for many in range(4):
            for orders in itertools.product(some, repeat=many):
                self.assertEqual(self.many(list(orders), machine), plain_fewest(machine, list(orders)), orders)

    def test_ten_orders_by_chance(self):
        rng = random.Random(17)
        for step in range(150):
            machine = (2, ("a", "b", "c"), 4, rng.randrange(1, 4), rng.randrange(1, 4), 4)
            orders = [some_order(rng, machine) for k in range(10)]
            self.assertLessEqual(self.many(orders, machine), 10)

    def test_rows_stand_by_the_order_of_orders(self):
        self.assertEqual(packed(WIDE, [("put", B, 7), ("put", A, 10)]), [(("put", A, 10), ("put", B, 7))])
        machine = (4, ("a", "b", "c"), 12, 3, 3, 10)
        orders = [("load", H0, A), ("put", H1, 7), ("move", H2, A), ("alu", "sub", B, B, B), ("put", C, 10)]
        told = (orders[3], orders[2], orders[4], orders[1], orders[0])
        self.assertEqual(packed(machine, orders), [told])


class Refused(unittest.TestCase):
    def test_eleven(self):
        for orders in (puts(11), puts(12) + puts(12), [("put", A, 1)] * 11):
            with self.assertRaises(TooMany) as caught:
                packed(WIDE, orders)
            self.assertIsInstance(caught.exception, LoftError)
        self.assertEqual(len(packed(WIDE, [("put", A, 1)] * 10)), 10)

    def test_refused_changes_nothing(self):
        orders = puts(11)
        with self.assertRaises(TooMany):
            packed(WIDE, orders)
        self.assertEqual(orders, puts(11))


class Kept(unittest.TestCase):
    def test_the_handed_list_stays(self):
        orders = puts(7)[::-1]
        packed(WIDE, orders)
        self.assertEqual(orders, puts(7)[::-1])

    def test_a_told_list_is_the_askers_own(self):
        orders = puts(5)
        told = packed(WIDE, orders)
        before = list(told)
        told.clear()
        orders.append(("put", A, 1))
        self.assertEqual(packed(WIDE, puts(5)), before)
        again = packed(WIDE, puts(5))
        orders.clear()
        self.assertEqual(again, before)
        none = packed(WIDE, [])
        none.append(1)
        self.assertEqual(packed(WIDE, []), [])


class Done(unittest.TestCase):
    def same(self, machine, orders, rows, state):
        one, other = list_done(machine, state, orders), rows_done(machine, state, rows)
        if one[0] == "trap":
            self.assertEqual(other[0], "trap", (orders, rows, state))
        else:
            self.assertEqual(one, other, (orders, rows, state))
        return one[0] == "trap"

    def test_rows_do_what_the_list_does(self):
        rng = random.Random(18)
        traps = 0
        for step in range(400):
            machine = (2, ("a", "b"), 3, rng.randrange(1, 4), rng.randrange(1, 4), 3)
            orders = [some_order(rng, machine) for k in range(rng.randrange(11))]
            rows = packed(machine, orders)
            for state in [some_state(rng, machine) for k in range(12)]:
                traps += self.same(machine, orders, rows, state)
        self.assertTrue(500 < traps < 4300, traps)

    def test_any_rows_that_hold_do_what_the_list_does(self):
        rng = random.Random(19)
        held = 0
        for step in range(1500):
            orders = [some_order(rng, SMALL) for k in range(3)]
            for way in itertools.permutations(orders):
                rows = [(order,) for order in way]
                if holds_list(SMALL, orders, rows):
                    held += 1
                    for state in [some_state(rng, SMALL) for k in range(4)]:
                        self.same(SMALL, orders, rows, state)
        self.assertGreater(held, 1500)


if __name__ == "__main__":
    unittest.main()
