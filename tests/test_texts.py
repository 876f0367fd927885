"""[9]: texts, and back to the same."""

import itertools
import unittest

from steploft.errors import NoText
from steploft.machines import is_machine, is_order, is_row, sorted_row
from steploft.texts import read_machine, read_row, show_machine, show_order, show_row
from things import A, B, H0, H1, MACHINE, OPS

ODD_NAMES = ("nop", "put", "add", "bits", "registers", "hidden", "cells", "h", "alu", "alus", "moves", "load", "hid")
SIGNS = [chr(code) for code in range(32, 127)] + ["\t"]


def near(text, signs):
    """Texts that one sign less, more or other makes of a text."""
    for at in range(len(text) + 1):
        for sign in signs:
            yield text[:at] + sign + text[at:]
            yield text[:at] + sign + text[at + 1:]
        yield text[:at] + text[at + 1:]


class Refusals(unittest.TestCase):
    def refused(self, read, *told):
        with self.assertRaises(NoText) as caught:
            read(*told)
        self.assertEqual(caught.exception.row, 1)

    def same_or_refused(self, read, show, text):
        try:
            told = read(text)
        except NoText as error:
            self.assertEqual(error.row, 1)
            return
        self.assertEqual(show(told), text)


class Shown(unittest.TestCase):
    def test_orders(self):
        self.assertEqual(show_order(("alu", "add", A, H0, B)), "alu add a h0 b")
        self.assertEqual(show_order(("move", H1, A)), "move h1 a")
        self.assertEqual(show_order(("put", A, 7)), "put a 7")
        self.assertEqual(show_order(("put", A, 0)), "put a 0")
        self.assertEqual(show_order(("load", ("hid", 11), B)), "load h11 b")
        self.assertEqual(show_order(("store", A, B)), "store a b")
        for op in OPS:
            self.assertEqual(show_order(("alu", op, H0, H1, H0)), f"alu {op} h0 h1 h0")

    def test_rows(self):
        self.assertEqual(show_row(()), "nop")
        self.assertEqual(show_row((("put", A, 7),)), "put a 7")
        row = (("alu", "add", A, H0, B), ("put", B, 7), ("store", A, B))
        self.assertEqual(show_row(row), "alu add a h0 b / put b 7 / store a b")

    def test_machines(self):
        told = show_machine((4, ("a", "b"), 2, 1, 1, 16))
        self.assertEqual(told, "bits 4 registers a b hidden 2 alus 1 moves 1 cells 16")
        told = show_machine((8, ("hidden", "cells"), 0, 3, 2, 0))
        self.assertEqual(told, "bits 8 registers hidden cells hidden 0 alus 3 moves 2 cells 0")


class RowsReadBack(Refusals):
    def back(self, machine, row):
        self.assertTrue(is_row(machine, row), row)
        self.assertEqual(read_row(machine, show_row(row)), row)

    def test_documents_own(self):
        machine = (4, ("a", "b"), 1, 1, 1, 16)
        row = read_row(machine, "alu add a h0 b / put b 7")
        self.assertEqual(row, (("alu", "add", A, H0, B), ("put", B, 7)))

    def test_no_orders(self):
        self.assertEqual(read_row(MACHINE, "nop"), ())
        self.assertEqual(read_row((4, ("nop",), 0, 1, 1, 0), "nop"), ())

    def test_each_order(self):
        machine = (2, ("a", "h"), 11, 1, 1, 0)
        places = (A, ("reg", "h"), H0, ("hid", 10))
        orders = [("alu", op, to, one, other) for op in OPS for to, one, other in itertools.product(places, repeat=3)]
        orders += [(kind, one, other) for kind in ("move", "load", "store") for one in places for other in places]
        orders += [("put", to, word) for to in places for word in range(4)]
        for order in orders:
            self.assertTrue(is_order(machine, order))
            self.back(machine, (order,))

    def test_wide_rows(self):
        machine = (8, ("a", "b"), 12, 3, 3, 256)
        orders = [("alu", "xor", ("hid", k), A, B) for k in (2, 10, 1)]
        orders += [("put", ("hid", 3), 255), ("put", ("hid", 4), 10), ("move", A, A), ("store", B, ("hid", 11))]
        self.back(machine, sorted_row(orders))

    def test_registers_called_as_words_of_the_texts(self):
        for names in zip(ODD_NAMES, ODD_NAMES[1:] + ODD_NAMES[:1]):
            machine = (4, names, 1, 1, 1, 4)
            one, other = ("reg", names[0]), ("reg", names[1])
            orders = [("alu", "add", one, other, one), ("put", other, 3), ("store", one, other)]
            self.back(machine, sorted_row(orders))
            self.back(machine, (("move", one, other), ("load", H0, other)))
            self.back(machine, (("put", one, 1),))
            self.back(machine, ())

    def test_h_and_the_hidden_ones_are_apart(self):
        machine = (4, ("h",), 1, 1, 1, 0)
        self.assertEqual(read_row(machine, "put h 1"), (("put", ("reg", "h"), 1),))
        self.assertEqual(read_row(machine, "put h0 1"), (("put", H0, 1),))
        self.refused(read_row, (4, ("a",), 1, 1, 1, 0), "put h 1")


class RowsRefused(Refusals):
    def no(self, *texts):
        for text in texts:
            self.refused(read_row, MACHINE, text)

    def test_empty(self):
        self.no("", " ", "\t", "/", " / ", " / nop")

    def test_blanks(self):
        self.no("put  a 7", "put a  7", " put a 7", "put a 7 ", "put a\t7", "put\ta 7", "puta 7", "put a7")
        self.no(" nop", "nop ", "nop nop", "nop / nop", "put a 7 / nop", "nop / put a 7", "NOP")

    def test_numbers(self):
        self.no("put a 07", "put a 00", "put a +7", "put a -1", "put a 7.0", "put a 1_0", "put a 0x1", "put a x")
        self.no("put a 16", "put a 999999999", "put a " + "9" * 5000, "put a " + "0" * 5000)
        self.no("put h00 1", "put h01 1", "put h 1", "put h-1 1", "put h1h 1", "put H1 1")

    def test_places_and_words_that_the_machine_has_not(self):
        self.no("put c 7", "put h2 7", "put ab 7", "put A 7", "move a c", "move h2 a", "load a 7", "store 7 a")
        self.no("alu add a b c", "alu add a c b", "alu add c a b", "move a reg", "put reg 1")

    def test_kinds_and_ops(self):
        self.no("alu mul a a b", "alu ADD a a b", "alu a a b", "alu put a a b", "ALU add a a b", "get a b", "a")

    def test_words_more_or_less(self):
        self.no("put a", "put", "put a 7 7", "move a", "move a b b", "load a", "store a b a", "alu add a b",
                "alu add a b b b", "alu")

    def test_strokes(self):
        self.no("put a 7/ put b 7", "put a 7 /put b 7", "put a 7/put b 7", "put a 7 / ", " / put a 7", "put a 7 /",
                "put a 7 / / put b 7", "put a 7  / put b 7", "put a 7 /  put b 7", "put a 7 // put b 7", "/ put a 7",
                "put a 7 put b 7", "put a 7 ; put b 7", "put a 7, put b 7")

    def test_order_of_orders(self):
        self.assertEqual(len(read_row(MACHINE, "put a 10 / put b 7")), 2)
        self.no("put b 7 / put a 10", "put a 7 / alu add b a a", "store a b / put a 7", "put a 7 / move b a")

    def test_twice(self):
        self.no("put a 7 / put a 7", "put a 10 / put a 7", "alu add a a b / put a 7")

    def test_too_many_of_a_kind(self):
        self.assertEqual(len(read_row(MACHINE, "alu add a a b / alu add b a b")), 2)
        self.no("alu add a a b / alu add b a b / alu add h0 a b", "move a b / put b 1 / put h0 1",
                "load a b / store a b", "load a b / load b b")

    def test_near_texts_are_the_same_or_refused(self):
        machine = (2, ("a", "h"), 2, 2, 1, 2)
        for text in ("alu add a h0 h / put h 3", "load h1 a / nop", "move a h1 / store h h", "nop"):
            for other in near(text, SIGNS):
                self.same_or_refused(lambda told: read_row(machine, told), show_row, other)


class MachinesReadBack(Refusals):
    def test_documents_own(self):
        told = read_machine("bits 4 registers a b hidden 2 alus 1 moves 1 cells 16")
        self.assertEqual(told, (4, ("a", "b"), 2, 1, 1, 16))

    def test_ends_of_the_ranges(self):
        machines = [(1, ("a",), 0, 1, 1, 0), (8, tuple("fedcba"), 12, 3, 3, 256), (1, ("abcdefgh",), 0, 1, 1, 2)]
        for machine in machines:
            self.assertEqual(read_machine(show_machine(machine)), machine)

    def test_registers_called_as_words_of_the_texts(self):
        names = [name for name in ODD_NAMES if len(name) < 9]
        for many in (1, 2):
            for some in itertools.permutations(names, many):
                machine = (4, some, 2, 1, 1, 16)
                self.assertTrue(is_machine(machine))
                self.assertEqual(read_machine(show_machine(machine)), machine)
        machine = (4, ("hidden", "alus", "moves", "cells", "bits"), 2, 1, 1, 16)
        self.assertEqual(read_machine(show_machine(machine)), machine)


class MachinesRefused(Refusals):
    good = "bits 4 registers a b hidden 2 alus 1 moves 1 cells 16"

    def no(self, text):
        self.refused(read_machine, text)

    def changed(self, old, new):
        self.assertIn(old, self.good)
        self.no(self.good.replace(old, new))

    def test_empty_and_short(self):
        self.no("")
        self.no(" ")
        self.no("nop")
        words = self.good.split(" ")
        for many in range(len(words)):
            self.no(" ".join(words[:many]))
            self.no(" ".join(words[many + 1:]))

    def test_numbers_beyond_their_ranges(self):
        for number in ("0", "9", "-1", "04", "", "x", "999999999"):
            self.changed("bits 4", f"bits {number}")
        for number in ("13", "-1", "02", "00", "", "x", "+2"):
            self.changed("hidden 2", f"hidden {number}")
        for number in ("0", "4", "01", "", "x"):
            self.changed("alus 1", f"alus {number}")
            self.changed("moves 1", f"moves {number}")
        for number in ("17", "016", "-1", "", "x", "9" * 5000):
            self.changed("cells 16", f"cells {number}")

    def test_registers(self):
        for names in ("", " ", "a a", "A b", "a b c d e f g", "abcdefghi", "a1", "h0 b", "a  b", "a, b"):
            self.changed("a b", names)
        self.no("bits 4 registers hidden 2 alus 1 moves 1 cells 16")

    def test_blanks(self):
        self.no(" " + self.good)
        self.no(self.good + " ")
        for at in range(len(self.good)):
            if self.good[at] == " ":
                self.no(self.good[:at] + " " + self.good[at:])
                self.no(self.good[:at] + "\t" + self.good[at + 1:])
                joined = self.good[:at] + self.good[at + 1:]
                if " ab " not in joined:
                    self.no(joined)

    def test_words_between(self):
        for word in ("bits", "registers", "hidden", "alus", "moves", "cells"):
            self.changed(word + " ", "other ")
            self.changed(word + " ", word.upper() + " ")
        self.no(self.good + " 1")
        self.no(self.good + " cells 16")
        self.no("bits 4 registers a b alus 1 hidden 2 moves 1 cells 16")

    def test_near_texts_are_the_same_or_refused(self):
        for other in near(self.good, SIGNS):
            self.same_or_refused(read_machine, show_machine, other)


if __name__ == "__main__":
    unittest.main()
