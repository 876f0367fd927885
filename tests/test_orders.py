"""[6]: what an order is."""

import unittest

from steploft.machines import is_order
from things import A, B, H0, H1, MACHINE, OPS, Plain, anything, nested

NO_HIDDEN = (4, ("a", "b"), 0, 2, 2, 10)


class Orders(unittest.TestCase):
    def yes(self, thing, machine=MACHINE):
        self.assertIs(is_order(machine, thing), True, thing)

    def no(self, thing, machine=MACHINE):
        self.assertIs(is_order(machine, thing), False, thing)

    def test_each_kind(self):
        for one in (A, B, H0, H1):
            for other in (A, B, H0, H1):
                self.yes(("move", one, other))
                self.yes(("load", one, other))
                self.yes(("store", one, other))
                self.yes(("alu", "add", one, other, A))
                self.yes(("alu", "add", A, one, other))
            self.yes(("put", one, 0))

    def test_each_op(self):
        for op in OPS:
            self.yes(("alu", op, A, H0, B))

    def test_other_ops(self):
        for op in ("", "not", "ADD", "add ", "mul", "move", None, True, 0, ("add",), ["add"], b"add", nested(97)):
            self.no(("alu", op, A, H0, B))

    def test_other_kinds(self):
        for kind in ("", "ALU", "Put", "reg", "nop", "trap", "stores", None, 0, b"put", ("put",), ["put"], {}):
            self.no((kind, A, 1))
            self.no((kind, A, B))
            self.no((kind, "add", A, B, B))

    def test_places_that_the_machine_has_not(self):
        wrong = [
            ("reg", "c"), ("reg", "A"), ("reg", ""), ("reg", "ab"), ("reg", "h0"), ("hid", 2), ("hid", -1),
            ("hid", 12), ("hid", True), ("hid", False), ("hid", "0"), ("hid", "a"), ("hid", 0.0), ("hid", None),
            ("reg", 0), ("reg", None), ("reg", ("a",)), ("reg", ["a"]), ("cell", 0), ("", "a"), ("REG", "a"),
            (None, 0), (["reg"], "a"), (b"reg", "a"), ["reg", "a"], ["hid", 0], ("reg", "a", "a"), ("reg",), (),
            "a", "h0", 0, None, True, {"reg": "a"}, Plain(), nested(98), ("hid", nested(97)),
        ]
        for place in wrong:
            self.no(("alu", "add", place, A, A))
            self.no(("alu", "add", A, place, A))
            self.no(("alu", "add", A, A, place))
            self.no(("put", place, 1))
            for kind in ("move", "load", "store"):
                self.no((kind, place, A))
                self.no((kind, A, place))

    def test_hidden_places_below_their_number(self):
        machine = (4, ("a",), 12, 1, 1, 0)
        for k in range(12):
            self.yes(("put", ("hid", k), 1), machine)
        self.no(("put", ("hid", 12), 1), machine)
        self.no(("put", H0, 1), NO_HIDDEN)
        self.yes(("put", A, 1), NO_HIDDEN)

    def test_words(self):
        for bits in (1, 4, 8):
            machine = (bits, ("a",), 0, 1, 1, 0)
            self.yes(("put", A, 0), machine)
            self.yes(("put", A, 2 ** bits - 1), machine)
            self.no(("put", A, 2 ** bits), machine)
            self.no(("put", A, -1), machine)
        for word in (True, False, None, "1", 1.0, (1,), [1], {}, A, nested(98)):
            self.no(("put", A, word))

    def test_a_part_more_or_less(self):
        for order in (("alu", "add", A, H0, B), ("move", A, B), ("put", A, 1), ("load", A, B), ("store", A, B)):
            self.yes(order)
            self.no(order[:-1])
            self.no(order[:1])
            self.no(order + (A,))
            self.no(order + (1,))
            self.no(list(order))
            self.no((order,))

    def test_a_machine_without_cells_has_loads_and_stores(self):
        machine = (4, ("a",), 0, 1, 1, 0)
        self.yes(("load", A, A), machine)
        self.yes(("store", A, A), machine)

    def test_anything(self):
        for thing in anything():
            self.no(thing)


if __name__ == "__main__":
    unittest.main()
