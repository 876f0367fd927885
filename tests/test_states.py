"""[10]: what a state is."""

import unittest

from steploft.machines import is_state
from things import Plain, anything, nested, nested_lists

MACHINE = (4, ("a", "b"), 2, 1, 1, 3)
GOOD = ((1, 2), (3, 4), (5, 6, 7))


def changed(at, part):
    return GOOD[:at] + (part,) + GOOD[at + 1:]


class States(unittest.TestCase):
    def yes(self, thing, machine=MACHINE):
        self.assertIs(is_state(machine, thing), True, thing)

    def no(self, thing, machine=MACHINE):
        self.assertIs(is_state(machine, thing), False, thing)

    def test_ordinary(self):
        self.yes(GOOD)
        self.yes(((0, 0), (0, 0), (0, 0, 0)))

    def test_words(self):
        for part in range(3):
            for at in range(len(GOOD[part])):
                for word, told in ((0, True), (15, True), (16, False), (-1, False), (999999999, False)):
                    words = GOOD[part][:at] + (word,) + GOOD[part][at + 1:]
                    self.assertIs(is_state(MACHINE, changed(part, words)), told, words)

    def test_the_greatest_word_hangs_on_the_bits(self):
        for bits in range(1, 9):
            machine = (bits, ("a",), 0, 1, 1, 0)
            self.yes(((2 ** bits - 1,), (), ()), machine)
            self.no(((2 ** bits,), (), ()), machine)

    def test_a_word_more_or_less(self):
        for part in range(3):
            self.no(changed(part, GOOD[part] + (0,)))
            self.no(changed(part, GOOD[part][1:]))
            self.no(changed(part, ()))

    def test_a_part_more_or_less(self):
        self.no(GOOD[:2])
        self.no(GOOD + ((),))
        self.no(())

    def test_truths_and_other_kinds_of_words(self):
        for part in range(3):
            for word in (True, False, None, "1", 1.0, (1,), [1], {}, Plain(), nested(97)):
                self.no(changed(part, (word,) + GOOD[part][1:]))

    def test_lists_in_the_place_of_tuples(self):
        self.no(list(GOOD))
        for part in range(3):
            self.no(changed(part, list(GOOD[part])))
            self.no(changed(part, None))
            self.no(changed(part, nested_lists(98)))

    def test_no_hidden_places_and_no_cells(self):
        machine = (1, ("a",), 0, 1, 1, 0)
        self.yes(((1,), (), ()), machine)
        self.no(((1,), (0,), ()), machine)
        self.no(((1,), (), (0,)), machine)
        self.no(((1,), [], ()), machine)

    def test_greatest_machine(self):
        machine = (8, tuple("abcdef"), 12, 3, 3, 256)
        self.yes(((255,) * 6, (255,) * 12, (255,) * 256), machine)
        self.no(((255,) * 6, (255,) * 12, (255,) * 257), machine)

    def test_a_trap_is_no_state(self):
        self.no(("trap", 3))

    def test_anything(self):
        for thing in anything():
            self.no(thing)


if __name__ == "__main__":
    unittest.main()
