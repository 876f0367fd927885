"""[17]: what a program is, and its runs."""

import unittest

from steploft.programs import is_program, run
from things import A, B, H0, H1, MACHINE, Plain, anything, nested, nested_lists

END = ("end",)
NOP = ((), END)
MEMORY = (9, 8, 7, 6, 5, 4, 3, 2, 1, 0)


def go(number, orders=()):
    return (orders, ("go", number))


def chain(many):
    return tuple(go(k + 1) for k in range(many - 1)) + (NOP,)


class Told(unittest.TestCase):
    def yes(self, thing, machine=MACHINE):
        self.assertIs(is_program(machine, thing), True, thing)

    def no(self, thing, machine=MACHINE):
        self.assertIs(is_program(machine, thing), False, thing)


class Programs(Told):
    def test_how_many_rows(self):
        for many in (1, 2, 299, 300):
            self.yes(chain(many))
            self.yes((NOP,) * many)
        for many in (301, 302, 1000):
            self.no(chain(many))
            self.no((NOP,) * many)
        self.no(())

    def test_orders(self):
        for orders in ((), (("put", A, 1),), (("alu", "add", A, B, H0), ("put", H1, 1), ("store", A, B))):
            self.yes(((orders, END),))
            self.yes((go(1), (orders, END)))
        for orders in (None, [], [("put", A, 1)], ("put", A, 1), (("put", A, 16),), (("put", ("reg", "c"), 1),),
                       (("put", B, 1), ("put", A, 1)), (("put", A, 1), ("put", A, 1)), ((),), "nop", nested(90),
                       (("load", A, B), ("store", A, B)), (("put", ("hid", 2), 1),)):
            self.no(((orders, END),))
            self.no((go(1), (orders, END)))

    def test_end(self):
        self.yes((NOP,))
        self.yes((NOP, NOP))
        self.yes((go(2), NOP, NOP))
        for onward in (("end", 0), ("end", ()), ["end"], "end", ("END",), ("",), (), None, True, 0, (END,), {}):
            self.no((((), onward),))
            self.no((((), onward), NOP))

    def test_go(self):
        self.yes((go(1), NOP))
        self.yes((go(2), NOP, NOP))
        self.no((go(0), NOP))
        self.no((go(1), go(0), NOP))
        self.no((go(1), go(1), NOP))
        self.no((go(2), NOP))
        self.no((go(1),))
        self.no((go(1), go(2)))
        for number in (-1, 2, 300, 999999999, True, False, None, "1", 1.0, (1,), [1], nested(90)):
            self.no((go(number), NOP))
        for onward in (("go",), ("go", 1, 1), ["go", 1], ("GO", 1), ("go", "1"), (1, "go"), ("end", 1), ("test", 1)):
            self.no((((), onward), NOP))

    def test_test(self):
        for place in (A, B, H0, H1):
            self.yes((((), ("test", place, 1, 2)), NOP, NOP))
            self.yes((((), ("test", place, 2, 1)), NOP, NOP))
            self.yes((((), ("test", place, 1, 1)), NOP, NOP))
        for numbers in ((0, 1), (1, 0), (1, 3), (3, 1), (-1, 1), (1, -1), (True, 2), (2, True), (None, 1), (1, None),
                        ("1", 2), (1, 2.0), ([1], 2), (0, 0), (3, 3), (1, nested(90))):
            self.no((((), ("test", A, *numbers)), NOP, NOP))
        self.no((NOP, ((), ("test", A, 0, 2)), NOP))
        self.no((NOP, ((), ("test", A, 2, 1)), NOP))

    def test_places_that_the_machine_has_not(self):
        for place in (("reg", "c"), ("hid", 2), ("hid", -1), ("hid", True), "a", None, 0, ["reg", "a"], (), ("reg",),
                      ("num", 1), ("reg", "a", "b"), nested(90)):
            self.no((((), ("test", place, 1, 2)), NOP, NOP))
        self.no((((), ("test", H0, 1, 2)), NOP, NOP), (4, ("a",), 0, 1, 1, 0))

    def test_tests_of_other_forms(self):
        for onward in (("test", A, 1), ("test", A), ("test",), ("test", A, 1, 2, 2), ("test", 1, 2, A),
                       ("TEST", A, 1, 2), ["test", A, 1, 2], ("go", A, 1, 2), ("test", A, (1, 2)), (A, 1, 2),
                       (None, A, 1, 2)):
            self.no((((), onward), NOP, NOP))

    def test_rows_of_other_forms(self):
        for row in (None, True, 0, "", (), [], {}, ((),), (END,), ((), END, ()), [(), END], (END, ()), ((), END, END),
                    "ab", NOP[0], nested(90), nested_lists(90), Plain()):
            self.no((row,))
            self.no((NOP, row))
            self.no((go(1), row))

    def test_lists_in_the_place_of_tuples(self):
        self.no([NOP])
        self.no(([*NOP],))
        self.no((((), ["end"]),))
        self.no({0: NOP})
        self.no(NOP)

    def test_a_test_of_a_place_that_the_row_writes(self):
        self.yes((((("put", A, 1),), ("test", A, 1, 2)), NOP, NOP))

    def test_anything(self):
        for thing in anything() + [nested(100), nested(97, NOP), nested_lists(100)]:
            self.no(thing)
            self.no((thing,))
            self.no(((thing, END),))
            self.no((((), thing), NOP))
            self.no(((NOP, thing), NOP))
            self.no((NOP, thing))


class Runs(Told):
    def told(self, program, a=0, b=0, hidden=(0, 0)):
        self.yes(program)
        return run(MACHINE, program, ((a, b), hidden, MEMORY))

    def test_one_row(self):
        self.assertEqual(self.told((NOP,), 3, 4, (5, 6)), ((3, 4), (5, 6), MEMORY))
        self.assertEqual(self.told((((("move", A, B), ("put", H1, 2)), END),), 3, 4), ((4, 4), (0, 2), MEMORY))

    def test_rows_one_behind_the_other(self):
        program = (go(1, (("put", H0, 3),)), go(2, (("alu", "add", H1, H0, A),)), ((("move", A, H1),), END))
        self.assertEqual(self.told(program, 15, 1), ((2, 1), (3, 2), MEMORY))

    def test_three_hundred_rows(self):
        order = ("alu", "add", A, A, B)
        program = tuple(go(k + 1, (order,)) for k in range(299)) + (((order,), END),)
        self.assertEqual(self.told(program, 0, 1)[0], (300 % 16, 1))

    def test_go_passes_rows_by(self):
        program = (go(2, (("put", A, 1),)), ((("put", A, 2),), END), ((("put", B, 3),), END))
        self.assertEqual(self.told(program)[0], (1, 3))

    def test_end_in_the_middle(self):
        program = (go(1, (("put", A, 1),)), ((("put", B, 2),), END), ((("put", A, 7),), END))
        self.assertEqual(self.told(program)[0], (1, 2))

    def test_both_ways(self):
        program = (((), ("test", A, 1, 2)), ((("put", B, 5),), END), ((("put", B, 6),), END))
        self.assertEqual(self.told(program, 0)[0], (0, 6))
        for word in range(1, 16):
            self.assertEqual(self.told(program, word)[0], (word, 5))
        other = (((), ("test", A, 2, 1)),) + program[1:]
        self.assertEqual(self.told(other, 0)[0], (0, 5))
        self.assertEqual(self.told(other, 1)[0], (1, 6))

    def test_a_test_of_each_place(self):
        for at, place in enumerate((A, B, H0, H1)):
            program = (((), ("test", place, 1, 2)), ((("put", A, 14),), END), ((("put", A, 15),), END))
            for other in range(4):
                words = [1 if k == other else 0 for k in range(4)]
                told = self.told(program, words[0], words[1], tuple(words[2:]))
                self.assertEqual(told[0][0], 14 if other == at else 15)

    def test_the_word_behind_the_row_is_tested(self):
        program = (((("put", A, 1),), ("test", A, 1, 2)), ((("put", B, 5),), END), ((("put", B, 6),), END))
        self.assertEqual(self.told(program, 0)[0], (1, 5))
        program = (((("alu", "sub", H0, A, A),), ("test", H0, 1, 2)),) + program[1:]
        self.assertEqual(self.told(program, 4, 0, (3, 3))[0], (4, 6))

    def test_traps(self):
        load, store = ("load", B, A), ("store", A, B)
        self.assertEqual(self.told((((load,), END),), 10), ("trap", 10))
        self.assertEqual(self.told((((store,), END),), 15), ("trap", 15))
        self.assertEqual(self.told((((load,), END),), 9)[0], (9, 0))
        program = (go(1, (("put", A, 12),)), ((load,), END))
        self.assertEqual(self.told(program, 3), ("trap", 12))
        program = (go(1, (load,)), ((("put", A, 1),), END))
        self.assertEqual(self.told(program, 11), ("trap", 11))
        program = (((load,), ("test", A, 1, 2)), NOP, NOP)
        self.assertEqual(self.told(program, 13), ("trap", 13))

    def test_a_way_that_is_not_gone_traps_nothing(self):
        program = (((), ("test", B, 1, 2)), ((("load", B, A),), END), NOP)
        self.assertEqual(self.told(program, 12, 0), ((12, 0), (0, 0), MEMORY))
        self.assertEqual(self.told(program, 12, 1), ("trap", 12))

    def test_rows_that_none_comes_to(self):
        program = (NOP, go(2, (("put", A, 1),)), ((("load", A, A),), END))
        self.assertEqual(self.told(program, 12), ((12, 0), (0, 0), MEMORY))

    def test_the_state_handed_in_stays(self):
        state = ((1, 2), (3, 4), MEMORY)
        run(MACHINE, (((("put", A, 9), ("store", A, B)), END),), state)
        self.assertEqual(state, ((1, 2), (3, 4), MEMORY))


if __name__ == "__main__":
    unittest.main()
