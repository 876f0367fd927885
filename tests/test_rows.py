"""[7] and [8]: a row's orders and their order."""

import itertools
import unittest

from steploft.machines import is_order, is_row, sorted_row
from steploft.texts import show_order
from things import A, B, H0, H1, MACHINE, Plain, anything, nested, nested_lists

C = ("reg", "c")
PLACES = (A, B, C, ("reg", "d"), H0, H1)


def wide(alus, moves):
    return (4, ("a", "b", "c", "d"), 2, alus, moves, 10)


def yes_or_no(test, machine, orders, told):
    test.assertIs(is_row(machine, orders), told, orders)


class Units(unittest.TestCase):
    def test_alus(self):
        orders = tuple(("alu", "add", to, A, A) for to in PLACES)
        for alus in (1, 2, 3):
            for many in range(6):
                yes_or_no(self, wide(alus, 1), orders[:many], many <= alus)

    def test_moves_and_puts_together(self):
        for moves in (1, 2, 3):
            for many_moves in range(5):
                for many_puts in range(5 - many_moves):
                    orders = tuple(("move", to, A) for to in PLACES[:many_moves])
                    orders += tuple(("put", to, 1) for to in PLACES[many_moves:many_moves + many_puts])
                    yes_or_no(self, wide(1, moves), orders, many_moves + many_puts <= moves)

    def test_one_load_or_store(self):
        machine = wide(3, 3)
        yes_or_no(self, machine, (("load", A, B),), True)
        yes_or_no(self, machine, (("store", A, B),), True)
        yes_or_no(self, machine, (("load", A, B), ("load", B, A)), False)
        yes_or_no(self, machine, (("store", A, A), ("store", A, B)), False)
        yes_or_no(self, machine, (("load", A, B), ("store", A, B)), False)

    def test_all_units_at_once(self):
        orders = (("alu", "add", A, A, B), ("alu", "sub", B, A, B), ("move", C, A), ("put", H0, 3), ("load", H1, A))
        yes_or_no(self, wide(2, 2), orders, True)
        yes_or_no(self, wide(1, 2), orders, False)
        yes_or_no(self, wide(2, 1), orders, False)


class Rows(unittest.TestCase):
    machine = wide(3, 3)

    def yes(self, orders):
        yes_or_no(self, self.machine, orders, True)

    def no(self, orders):
        yes_or_no(self, self.machine, orders, False)

    def test_no_orders(self):
        self.yes(())
        self.no([])

    def test_same_to(self):
        self.no((("alu", "add", A, A, B), ("alu", "sub", A, A, B)))
        self.no((("alu", "add", A, A, B), ("move", A, B)))
        self.no((("move", A, B), ("put", A, 1)))
        self.no((("put", A, 1), ("put", A, 2)))
        self.no((("put", H0, 1), ("load", H0, B)))
        self.no((("alu", "add", A, A, B), ("load", A, B)))
        self.yes((("put", H0, 1), ("put", H1, 1)))

    def test_a_store_has_no_to(self):
        self.yes((("put", A, 1), ("store", A, B)))
        self.yes((("alu", "add", B, A, B), ("move", A, B), ("store", A, B)))

    def test_reading_what_others_write(self):
        self.yes((("move", A, B), ("move", B, A)))

    def test_one_order_twice(self):
        for order in (("alu", "add", A, A, B), ("move", A, B), ("put", A, 1), ("load", A, B), ("store", A, B)):
            self.yes((order,))
            self.no((order, order))

    def test_out_of_order(self):
        rows = [
            (("put", A, 10), ("put", B, 7)),
            (("alu", "xor", A, A, B), ("move", B, A)),
            (("alu", "add", H0, A, B), ("alu", "sub", A, A, B)),
            (("move", H0, A), ("put", A, 1)),
            (("put", H0, 1), ("load", A, B)),
            (("put", H0, 1), ("store", A, B)),
        ]
        for row in rows:
            self.yes(row)
            self.no(row[::-1])

    def test_tuples_of_orders_alone(self):
        good = ("put", A, 1)
        self.no([good])
        self.no(good)
        self.no((list(good),))
        for other in (None, True, 1, "put a 1", (), [], ("put", A, 16), ("put", A, True), ("put", ("reg", "e"), 1)):
            self.no((other,))
            self.no((good, other))
            self.no((other, good))

    def test_anything(self):
        for thing in anything():
            if thing != ():
                self.no(thing)
                self.no((thing,))
        for thing in (nested(100), nested(100, ("put", A, 1)), nested_lists(100), Plain(), {}):
            self.no(thing)
        self.yes(())


class Order(unittest.TestCase):
    def test_puts_by_their_texts(self):
        self.assertEqual(sorted_row([("put", A, 7), ("put", A, 10)]), (("put", A, 10), ("put", A, 7)))

    def test_kinds_in_the_documents_order(self):
        row = (("alu", "xor", B, B, B), ("move", B, B), ("put", H1, 9), ("load", A, A), ("store", A, A))
        for orders in itertools.permutations(row):
            self.assertEqual(sorted_row(list(orders)), row)

    def test_hidden_places_by_their_texts(self):
        orders = [("move", ("hid", k), A) for k in (2, 10, 1)] + [("move", ("reg", "h"), A), ("move", ("reg", "i"), A)]
        tos = [order[1] for order in sorted_row(orders)]
        self.assertEqual(tos, [("reg", "h"), ("hid", 1), ("hid", 10), ("hid", 2), ("reg", "i")])

    def test_alus_by_op_and_then_places(self):
        row = (("alu", "add", B, A, A), ("alu", "and", A, A, A), ("alu", "and", A, A, B), ("alu", "less", A, A, A),
               ("alu", "or", A, A, A), ("alu", "same", A, A, A), ("alu", "sub", A, A, A), ("alu", "xor", A, A, A))
        self.assertEqual(sorted_row(list(row[::-1])), row)

    def test_blanks_go_ahead_of_letters(self):
        row = (("move", A, ("reg", "z")), ("move", ("reg", "aa"), A))
        self.assertEqual(sorted_row(list(row[::-1])), row)

    def test_none_and_one(self):
        self.assertEqual(sorted_row([]), ())
        self.assertEqual(sorted_row([("put", A, 1)]), (("put", A, 1),))

    def test_the_list_stays_as_it_was(self):
        orders = [("put", A, 7), ("put", B, 10), ("move", A, B)]
        before = list(orders)
        row = sorted_row(orders)
        self.assertEqual(orders, before)
        self.assertIsInstance(row, tuple)
        orders.clear()
        self.assertEqual(len(row), 3)

    def test_rows_of_two_are_told_by_the_order(self):
        machine = (1, ("a", "b"), 1, 3, 3, 2)
        places = (A, B, H0)
        orders = [("alu", op, to, A, H0) for op in ("add", "same") for to in places]
        orders += [("put", to, n) for to in places for n in (0, 1)]
        orders += [(kind, one, other) for kind in ("move", "load", "store") for one in places for other in places]
        self.assertTrue(all(is_order(machine, order) for order in orders))
        kinds = ("alu", "move", "put", "load", "store")
        for one, other in itertools.product(orders, repeat=2):
            rises = (kinds.index(one[0]), show_order(one)) < (kinds.index(other[0]), show_order(other))
            tos = [order[2 if order[0] == "alu" else 1] for order in (one, other) if order[0] != "store"]
            memory = [order for order in (one, other) if order[0] in ("load", "store")]
            told = rises and len(set(tos)) == len(tos) and len(memory) < 2
            yes_or_no(self, machine, (one, other), told)


if __name__ == "__main__":
    unittest.main()
