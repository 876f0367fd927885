"""[2] and the interface: arguments by place and by name, and nothing handed in is changed or kept."""

import inspect
import unittest

from steploft import machines, texts
from steploft.errors import NoText
from things import A, B, MACHINE

STATE = ((1, 2), (3, 4), (0,) * 10)
ROW = (("put", A, 7),)
TEXT = "bits 4 registers a b hidden 2 alus 2 moves 2 cells 10"
CALLS = (
    (machines.is_machine, {"thing": MACHINE}, True),
    (machines.is_order, {"machine": MACHINE, "thing": ROW[0]}, True),
    (machines.is_row, {"machine": MACHINE, "thing": ROW}, True),
    (machines.is_state, {"machine": MACHINE, "thing": STATE}, True),
    (machines.sorted_row, {"orders": list(ROW)}, ROW),
    (machines.row_done, {"machine": MACHINE, "state": STATE, "orders": ROW}, ((7, 2),) + STATE[1:]),
    (texts.show_order, {"order": ROW[0]}, "put a 7"),
    (texts.show_row, {"orders": ROW}, "put a 7"),
    (texts.show_machine, {"machine": MACHINE}, TEXT),
    (texts.read_row, {"machine": MACHINE, "text": "put a 7"}, ROW),
    (texts.read_machine, {"text": TEXT}, MACHINE),
)


class Arguments(unittest.TestCase):
    def test_by_name(self):
        for function, arguments, told in CALLS:
            self.assertEqual(function(**arguments), told)
            backwards = {name: arguments[name] for name in reversed(arguments)}
            self.assertEqual(function(**backwards), told)

    def test_by_place(self):
        for function, arguments, told in CALLS:
            self.assertEqual(function(*arguments.values()), told)

    def test_names_stand_in_the_told_order(self):
        for function, arguments, told in CALLS:
            self.assertEqual(list(inspect.signature(function).parameters), list(arguments))

    def test_functions_stand_in_the_told_modules(self):
        for function, arguments, told in CALLS:
            module = machines if function.__module__ == machines.__name__ else texts
            self.assertEqual(function.__module__, module.__name__)
            self.assertIs(getattr(module, function.__name__), function)

    def test_refused_by_name_too(self):
        with self.assertRaises(NoText):
            texts.read_row(text="", machine=MACHINE)
        with self.assertRaises(NoText):
            texts.read_machine(text="")


class Kept(unittest.TestCase):
    def test_a_list_handed_in_is_as_it_was(self):
        orders = [("put", B, 7), ("put", A, 10), ("alu", "add", A, A, B)]
        before = list(orders)
        machines.sorted_row(orders)
        machines.is_row(MACHINE, orders)
        machines.is_order(MACHINE, orders)
        machines.is_state(MACHINE, orders)
        machines.is_machine(orders)
        self.assertEqual(orders, before)

    def test_asked_again_tells_the_same(self):
        for function, arguments, told in CALLS + CALLS:
            self.assertEqual(function(**arguments), told)


if __name__ == "__main__":
    unittest.main()
