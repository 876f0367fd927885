"""[14]: when rows hold a list of orders."""

import itertools
import random
import unittest

from steploft.machines import is_row, sorted_row
from steploft.packing import holds_list
from things import A, B, H0, H1, Plain, anything, nested, nested_lists, places_of, plain_holds, some_order

C = ("reg", "c")
D = ("reg", "d")
H2 = ("hid", 2)
H3 = ("hid", 3)
WIDE = (4, ("a", "b", "c", "d"), 4, 2, 2, 10)
LONG = (4, ("a", "b", "c", "d"), 12, 1, 1, 10)


def rows_of(*rows):
    return [sorted_row(row) for row in rows]


class Told(unittest.TestCase):
    def yes(self, orders, rows, machine=WIDE):
        self.assertIs(holds_list(machine, orders, rows), True, (orders, rows))

    def no(self, orders, rows, machine=WIDE):
        self.assertIs(holds_list(machine, orders, rows), False, (orders, rows))

    def behind(self, earlier, later):
        """The later order has to stand in a later row."""
        self.yes([earlier, later], rows_of([earlier], [later]))
        self.no([earlier, later], rows_of([later], [earlier]))
        self.no([earlier, later], rows_of([earlier, later]))

    def not_ahead(self, earlier, later):
        """The later order may stand in the same row, in no earlier one."""
        self.yes([earlier, later], rows_of([earlier], [later]))
        self.yes([earlier, later], rows_of([earlier, later]))
        self.no([earlier, later], rows_of([later], [earlier]))

    def free(self, earlier, later):
        self.yes([earlier, later], rows_of([earlier], [later]))
        self.yes([earlier, later], rows_of([earlier, later]))
        self.yes([earlier, later], rows_of([later], [earlier]))


class Pairs(Told):
    def test_reads_what_an_earlier_one_writes(self):
        for earlier in (("put", H0, 1), ("move", H0, B), ("alu", "add", H0, A, B), ("load", H0, A)):
            for later in (("move", H1, H0), ("alu", "sub", H1, H0, B), ("alu", "sub", H1, B, H0), ("load", H1, H0),
                          ("store", H0, B), ("store", B, H0)):
                self.behind(earlier, later)
        self.behind(("put", A, 1), ("move", B, A))
        self.behind(("put", A, 1), ("move", H0, A))

    def test_both_write_the_same(self):
        for earlier in (("put", H0, 1), ("move", H0, B), ("alu", "add", H0, A, B), ("load", H0, A)):
            for later in (("put", H0, 2), ("move", H0, C), ("alu", "or", H0, A, B), ("load", H0, B)):
                self.behind(earlier, later)
        self.behind(("put", A, 1), ("put", A, 2))
        self.behind(("alu", "add", A, B, C), ("move", A, D))

    def test_memory(self):
        self.behind(("store", A, B), ("load", H0, C))
        self.behind(("store", A, B), ("store", C, D))
        self.behind(("store", A, B), ("store", A, C))

    def test_a_store_behind_a_load(self):
        load, store = ("load", H0, A), ("store", B, C)
        self.yes([load, store], rows_of([load], [store]))
        self.no([load, store], rows_of([store], [load]))
        self.no([load, store], rows_of([load, store]))

    def test_loads_are_free_but_for_their_unit(self):
        one, other = ("load", H0, A), ("load", H1, B)
        self.yes([one, other], rows_of([one], [other]))
        self.yes([one, other], rows_of([other], [one]))
        self.no([one, other], rows_of([one, other]))

    def test_writes_what_an_earlier_one_reads(self):
        for earlier in (("move", H1, H0), ("alu", "add", H1, H0, A), ("alu", "add", H1, A, H0), ("load", H1, H0),
                        ("store", H0, A), ("store", A, H0)):
            for later in (("put", H0, 1), ("move", H0, B), ("alu", "xor", H0, B, C)):
                self.not_ahead(earlier, later)
        self.not_ahead(("move", B, A), ("put", A, 1))

    def test_writes_a_register_behind_a_load_or_a_store(self):
        for earlier in (("load", H0, A), ("store", A, B)):
            for later in (("put", C, 1), ("move", C, D), ("alu", "add", C, D, D)):
                self.not_ahead(earlier, later)
            for later in (("put", H1, 1), ("move", H1, D), ("alu", "add", H1, D, D)):
                self.free(earlier, later)
                self.free(later, earlier)
        later = ("load", C, D)
        self.no([("load", H0, A), later], rows_of([later], [("load", H0, A)]))

    def test_a_load_behind_what_writes_a_register_is_free(self):
        for earlier in (("put", C, 1), ("move", C, D), ("alu", "add", C, D, D)):
            self.free(earlier, ("load", H0, A))
            self.free(earlier, ("store", A, B))

    def test_free(self):
        self.free(("put", H0, 1), ("put", H1, 1))
        self.free(("move", H0, A), ("move", H1, A))
        self.free(("alu", "add", A, C, D), ("move", B, C))
        self.free(("alu", "add", H0, H0, H0), ("alu", "add", H1, H1, H1))

    def test_an_order_that_reads_what_it_writes(self):
        self.behind(("alu", "add", H0, H0, A), ("alu", "add", H0, H0, B))
        self.yes([("alu", "add", A, A, A)], rows_of([("alu", "add", A, A, A)]))

    def test_all_pairs_as_the_document_has_them(self):
        machine = (1, ("a",), 1, 2, 2, 1)
        places = places_of(machine)
        orders = [(kind, one, other) for kind in ("move", "load", "store") for one in places for other in places]
        orders += [("put", to, 1) for to in places]
        orders += [("alu", "add", to, one, other) for to, one, other in itertools.product(places, repeat=3)]
        for pair in itertools.product(orders, repeat=2):
            for rows in (rows_of(pair), rows_of(pair[:1], pair[1:]), rows_of(pair[1:], pair[:1])):
                told = plain_holds(machine, list(pair), rows)
                self.assertIs(holds_list(machine, list(pair), rows), told, (pair, rows))


class Rows(Told):
    first = [("put", H0, 1), ("put", H1, 2), ("alu", "add", H2, H0, H1), ("move", A, H2)]
    right = [(("put", H0, 1), ("put", H1, 2)), (("alu", "add", H2, H0, H1),), (("move", A, H2),)]

    def test_rows_that_hold(self):
        self.yes(self.first, self.right)
        self.yes(self.first, [(order,) for order in self.first])
        self.yes(self.first, [(self.first[k],) for k in (1, 0, 2, 3)])

    def test_no_orders_and_no_rows(self):
        self.yes([], [])
        self.no([], [()])
        self.no([], [(("put", A, 1),)])
        self.no(self.first, [])
        self.no([], ())

    def test_an_order_lacks_or_is_more(self):
        self.no(self.first, self.right[:2])
        self.no(self.first, self.right[1:])
        self.no(self.first, self.right + [(("put", H3, 1),)])
        self.no(self.first, self.right + [(("move", A, H2),)])
        self.no(self.first, self.right[:2] + [(("move", B, H2),)])
        self.no(self.first, [(("put", H0, 1),), (("put", H0, 1),)] + self.right[1:])

    def test_an_empty_row(self):
        for at in range(4):
            self.no(self.first, self.right[:at] + [()] + self.right[at:])

    def test_a_row_out_of_its_order(self):
        self.no(self.first, [self.right[0][::-1]] + self.right[1:])

    def test_too_many_of_a_kind(self):
        narrow = (4, ("a", "b", "c", "d"), 4, 1, 1, 10)
        self.no(self.first, self.right, narrow)
        self.yes(self.first, [(order,) for order in self.first], narrow)
        orders = [("alu", "add", H0, A, A), ("alu", "add", H1, A, A)]
        self.yes(orders, [tuple(orders)])
        self.no(orders, [tuple(orders)], narrow)

    def test_like_orders(self):
        twice = [("put", H0, 1), ("put", H0, 1)]
        self.yes(twice, [(twice[0],), (twice[0],)])
        self.no(twice, [(twice[0],)])
        self.no(twice, [tuple(twice)])
        self.no(twice, [(twice[0],)] * 3)
        self.no(twice[:1], [(twice[0],)] * 2)
        added = ("alu", "add", A, A, B)
        self.yes([added] * 3, [(added,)] * 3)
        self.no([added] * 3, [(added,)] * 2)

    def test_like_orders_with_one_between(self):
        put, move, other = ("put", H0, 1), ("move", A, H0), ("move", B, H0)
        self.yes([put, move, put], rows_of([put], [move], [put]))
        self.yes([put, move, put], rows_of([put], [move, put]))
        self.no([put, move, put], rows_of([put], [put], [move]))
        self.no([put, move, put], rows_of([move], [put], [put]))
        self.yes([put, move, put, other], rows_of([put], [move, put], [other]))
        self.no([put, move, put, other], rows_of([put], [other, put], [move]))

    def test_rows_in_anything_but_a_list(self):
        self.no(self.first, tuple(self.right))
        self.no(self.first, {k: row for k, row in enumerate(self.right)})
        self.no(self.first, dict.fromkeys(self.right))
        self.no(self.first, iter(self.right))
        self.no(self.first, [list(row) for row in self.right])
        self.no(self.first, [self.right])
        self.no(self.first, [tuple(self.right)])
        self.no([], {})
        self.no([], None)
        self.no([], "")

    def test_anything(self):
        for thing in anything() + [[nested(99)], [nested_lists(99)], [Plain()], [None], [True], ["put h0 1"], [1]]:
            self.no(self.first, thing)
            self.no(self.first, [thing])
            self.no(self.first, self.right + [thing])
            self.no(self.first, [thing] + self.right[1:])
            self.no(self.first, self.right[:2] + [(thing,)])
            self.no([], [thing])

    def test_ten_orders(self):
        orders = [("put", ("hid", k), k) for k in range(10)]
        self.yes(orders, [(order,) for order in orders], LONG)
        self.yes(orders, [(order,) for order in orders[::-1]], LONG)
        self.no(orders, [(order,) for order in orders[:9]], LONG)

    def test_what_is_handed_in_stays(self):
        orders, rows = list(self.first), list(self.right)
        holds_list(WIDE, orders, rows)
        self.assertEqual((orders, rows), (self.first, self.right))

    def test_by_chance(self):
        rng = random.Random(15)
        machine = (1, ("a", "b"), 2, 2, 2, 1)
        told = []
        for step in range(6000):
            orders = [some_order(rng, machine) for k in range(rng.randrange(1, 5))]
            many = rng.randrange(1, 5)
            rows = [[] for k in range(many)]
            for order in rng.sample(orders, len(orders)) if step % 2 else orders:
                rows[rng.randrange(many)].append(order)
            rows = sorted([sorted_row(row) for row in rows if row], key=lambda row: step % 3 and orders.index(row[0]))
            right = plain_holds(machine, orders, rows)
            self.assertIs(holds_list(machine, orders, rows), right, (orders, rows))
            told.append((right, all(is_row(machine, row) for row in rows)))
        self.assertTrue(min(told.count(kind) for kind in ((True, True), (False, True), (False, False))) > 300)


if __name__ == "__main__":
    unittest.main()
