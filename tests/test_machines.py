"""[5]: what a machine is."""

import unittest

from steploft.machines import is_machine
from things import MACHINE, Plain, anything, nested

GOOD = (4, ("a", "b"), 2, 1, 1, 16)


def changed(at, part):
    return GOOD[:at] + (part,) + GOOD[at + 1:]


class Machines(unittest.TestCase):
    def yes(self, thing):
        self.assertIs(is_machine(thing), True, thing)

    def no(self, thing):
        self.assertIs(is_machine(thing), False, thing)

    def test_ordinary(self):
        self.yes(GOOD)
        self.yes(MACHINE)
        self.yes((1, ("a",), 0, 1, 1, 0))
        self.yes((8, tuple("abcdef"), 12, 3, 3, 256))

    def test_bits(self):
        for bits in range(1, 9):
            self.yes((bits, ("a",), 0, 1, 1, 0))
        for bits in (0, -1, 9, 10 ** 8):
            self.no((bits, ("a",), 0, 1, 1, 0))

    def test_ranges_of_the_other_numbers(self):
        for at, low, high in ((2, 0, 12), (3, 1, 3), (4, 1, 3), (5, 0, 16)):
            for number in range(low, high + 1):
                self.yes(changed(at, number))
            self.no(changed(at, low - 1))
            self.no(changed(at, high + 1))
            self.no(changed(at, 999999999))

    def test_cells_go_to_two_to_the_bits(self):
        for bits in range(1, 9):
            self.yes((bits, ("a",), 0, 1, 1, 2 ** bits))
            self.no((bits, ("a",), 0, 1, 1, 2 ** bits + 1))

    def test_how_many_registers(self):
        for many in range(1, 7):
            self.yes(changed(1, tuple("abcdef"[:many])))
        self.no(changed(1, ()))
        self.no(changed(1, tuple("abcdefg")))

    def test_names(self):
        for name in ("a", "z", "abcdefgh", "hidden", "nop", "h", "zzzzzzzz"):
            self.yes(changed(1, (name,)))
        wrong = ("", "abcdefghi", "A", "aB", "a1", "h0", "a b", " a", "a ", "a\n", "\t", "_", "a_b", "/", "\u00e4")
        for name in wrong:
            self.no(changed(1, (name,)))
            self.no(changed(1, ("a", name)))

    def test_names_of_other_kinds(self):
        for name in (None, True, 1, b"a", ("a",), ["a"], {}, nested(97), Plain()):
            self.no(changed(1, (name,)))
            self.no(changed(1, ("a", name)))

    def test_unlike_names(self):
        self.no(changed(1, ("a", "a")))
        self.no(changed(1, ("a", "b", "c", "a")))
        self.yes(changed(1, ("a", "aa")))

    def test_truths_are_no_numbers(self):
        for at in (0, 2, 3, 4, 5):
            self.no(changed(at, True))
            self.no(changed(at, False))

    def test_other_kinds_are_no_numbers(self):
        for at in (0, 2, 3, 4, 5):
            for part in (None, "1", 1.0, 1j, (1,), [1], {}, b"\x01", nested(98), Plain()):
                self.no(changed(at, part))

    def test_tuples_alone(self):
        self.no(list(GOOD))
        self.no(changed(1, ["a", "b"]))
        self.no(changed(1, "ab"))
        self.no(changed(1, {"a": 1}))
        self.no(changed(1, None))

    def test_a_part_more_or_less(self):
        self.no(GOOD + (1,))
        self.no(GOOD[:-1])
        self.no(GOOD[1:])
        self.no(())

    def test_anything(self):
        for thing in anything():
            self.no(thing)


if __name__ == "__main__":
    unittest.main()
