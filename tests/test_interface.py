"""[2] and the interface: arguments by place and by name, and nothing handed in is changed or kept."""

import copy
import inspect
import unittest

from steploft import machines, meanings, packing, programs, texts
from steploft.errors import NoRoom, NoText, TooMany
from things import A, B, MACHINE

STATE = ((1, 2), (3, 4), (0,) * 10)
ROW = (("put", A, 7),)
TEXT = "bits 4 registers a b hidden 2 alus 2 moves 2 cells 10"
MEANING = ("do", (("a", B),), ())
MEANT = ((2, 2), (0,) * 10)
ORDERS = [("put", A, 7)]
PAPER = packing.paper_of(MACHINE, ORDERS)
PROGRAM = ((ROW, ("end",)),)
TURNED = (((("move", ("hid", 0), B),), ("go", 1)), ((("move", A, ("hid", 0)),), ("end",)))
CALLS = (
    (machines.is_machine, {"thing": MACHINE}, True),
    (machines.is_order, {"machine": MACHINE, "thing": ROW[0]}, True),
    (machines.is_row, {"machine": MACHINE, "thing": ROW}, True),
    (machines.is_state, {"machine": MACHINE, "thing": STATE}, True),
    (machines.sorted_row, {"orders": list(ROW)}, ROW),
    (machines.row_done, {"machine": MACHINE, "state": STATE, "orders": ROW}, ((7, 2),) + STATE[1:]),
    (texts.show_order, {"order": ROW[0]}, "put a 7"),
    (texts.show_row, {"orders": ROW}, "put a 7"),
    (texts.show_machine, {"machine": MACHINE}, TEXT),
    (texts.read_row, {"machine": MACHINE, "text": "put a 7"}, ROW),
    (texts.read_machine, {"text": TEXT}, MACHINE),
    (meanings.is_meaning, {"machine": MACHINE, "thing": MEANING}, True),
    (meanings.meant, {"machine": MACHINE, "meaning": MEANING, "state": STATE}, MEANT),
    (meanings.show_meaning, {"meaning": MEANING}, "a = b"),
    (meanings.read_meaning, {"machine": MACHINE, "text": "a = b"}, MEANING),
    (packing.holds_list, {"machine": MACHINE, "orders": ORDERS, "rows": [ROW]}, True),
    (packing.packed, {"machine": MACHINE, "orders": ORDERS}, [ROW]),
    (packing.paper_of, {"machine": MACHINE, "orders": ORDERS}, PAPER),
    (packing.paper_holds, {"machine": MACHINE, "orders": ORDERS, "paper": PAPER}, True),
    (programs.is_program, {"machine": MACHINE, "thing": PROGRAM}, True),
    (programs.run, {"machine": MACHINE, "program": PROGRAM, "state": STATE}, ((7, 2),) + STATE[1:]),
    (programs.needs, {"meaning": MEANING}, 1),
    (programs.turned, {"machine": MACHINE, "meaning": MEANING}, TURNED),
)
MODULES = {module.__name__: module for module in (machines, meanings, packing, programs, texts)}


class Arguments(unittest.TestCase):
    def test_by_name(self):
        for function, arguments, told in CALLS:
            self.assertEqual(function(**arguments), told)
            backwards = {name: arguments[name] for name in reversed(arguments)}
            self.assertEqual(function(**backwards), told)

    def test_by_place(self):
        for function, arguments, told in CALLS:
            self.assertEqual(function(*arguments.values()), told)

    def test_names_stand_in_the_told_order(self):
        for function, arguments, told in CALLS:
            self.assertEqual(list(inspect.signature(function).parameters), list(arguments))

    def test_functions_stand_in_the_told_modules(self):
        for function, arguments, told in CALLS:
            self.assertIs(getattr(MODULES[function.__module__], function.__name__), function)

    def test_refused_by_name_too(self):
        with self.assertRaises(NoText):
            texts.read_row(text="", machine=MACHINE)
        with self.assertRaises(NoText):
            texts.read_machine(text="")
        with self.assertRaises(NoText):
            meanings.read_meaning(text="", machine=MACHINE)
        with self.assertRaises(TooMany):
            packing.packed(orders=ORDERS * 11, machine=MACHINE)
        with self.assertRaises(TooMany):
            packing.paper_of(orders=ORDERS * 11, machine=MACHINE)
        with self.assertRaises(NoRoom):
            programs.turned(meaning=MEANING, machine=(4, ("a", "b"), 0, 1, 1, 0))


class Kept(unittest.TestCase):
    def test_a_list_handed_in_is_as_it_was(self):
        orders = [("put", B, 7), ("put", A, 10), ("alu", "add", A, A, B)]
        before = list(orders)
        machines.sorted_row(orders)
        machines.is_row(MACHINE, orders)
        machines.is_order(MACHINE, orders)
        machines.is_state(MACHINE, orders)
        machines.is_machine(orders)
        self.assertEqual(orders, before)

    def test_lists_within_what_is_asked_of_anything_are_as_they_were(self):
        thing = [("do", [["a", B]], []), [ROW], [3, [[[0], 1]]]]
        before = copy.deepcopy(thing)
        for part in (thing, *thing):
            meanings.is_meaning(MACHINE, part)
            packing.holds_list(MACHINE, ORDERS, part)
            packing.paper_holds(MACHINE, ORDERS, part)
            programs.is_program(MACHINE, part)
        self.assertEqual(thing, before)
        self.assertEqual(ORDERS, [("put", A, 7)])

    def test_a_told_list_is_a_new_one(self):
        told = packing.packed(MACHINE, ORDERS)
        self.assertIsNot(told, packing.packed(MACHINE, ORDERS))
        told.append(())
        self.assertEqual(packing.packed(MACHINE, ORDERS), [ROW])

    def test_asked_again_tells_the_same(self):
        for function, arguments, told in CALLS + CALLS:
            self.assertEqual(function(**arguments), told)


if __name__ == "__main__":
    unittest.main()
