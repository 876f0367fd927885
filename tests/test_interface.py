"""[2] and the interface: arguments by place and by name, and nothing handed in is changed or kept."""

import copy
import inspect
import unittest

from steploft import loft, looks, machines, meanings, packing, programs, stores, texts
from steploft.errors import NoCells, NoLoft, NoName, NoRoom, NoRow, NoText, NotStill, TooMany
from steploft.loft import Loft
from things import A, B, MACHINE

STATE = ((1, 2), (3, 4), (0,) * 10)
ROW = (("put", A, 7),)
TEXT = "bits 4 registers a b hidden 2 alus 2 moves 2 cells 10"
MEANING = ("do", (("a", B),), ())
MEANT = ((2, 2), (0,) * 10)
ORDERS = [("put", A, 7)]
PAPER = packing.paper_of(MACHINE, ORDERS)
PROGRAM = ((ROW, ("end",)),)
TURNED = (((("move", ("hid", 0), B),), ("go", 1)), ((("move", A, ("hid", 0)),), ("end",)))
STORE = (PROGRAM + (((), ("go", 0)),), (("x", 0), ("y", 1)))
STORE_TEXT = "0 put a 7 ; end\n1 nop ; go 0\nstart x 0\nstart y 1\n"
SMALL = (4, ("a", "b"), 1, 1, 1, 1)
UNSAFE = ((ROW, ("go", 1)), ((("store", A, B),), ("end",)))
CALLS = (
    (machines.is_machine, {"thing": MACHINE}, True),
    (machines.is_order, {"machine": MACHINE, "thing": ROW[0]}, True),
    (machines.is_row, {"machine": MACHINE, "thing": ROW}, True),
    (machines.is_state, {"machine": MACHINE, "thing": STATE}, True),
    (machines.sorted_row, {"orders": list(ROW)}, ROW),
    (machines.row_done, {"machine": MACHINE, "state": STATE, "orders": ROW}, ((7, 2),) + STATE[1:]),
    (texts.show_order, {"order": ROW[0]}, "put a 7"),
    (texts.show_row, {"orders": ROW}, "put a 7"),
    (texts.show_machine, {"machine": MACHINE}, TEXT),
    (texts.read_row, {"machine": MACHINE, "text": "put a 7"}, ROW),
    (texts.read_machine, {"text": TEXT}, MACHINE),
    (meanings.is_meaning, {"machine": MACHINE, "thing": MEANING}, True),
    (meanings.meant, {"machine": MACHINE, "meaning": MEANING, "state": STATE}, MEANT),
    (meanings.show_meaning, {"meaning": MEANING}, "a = b"),
    (meanings.read_meaning, {"machine": MACHINE, "text": "a = b"}, MEANING),
    (packing.holds_list, {"machine": MACHINE, "orders": ORDERS, "rows": [ROW]}, True),
    (packing.packed, {"machine": MACHINE, "orders": ORDERS}, [ROW]),
    (packing.paper_of, {"machine": MACHINE, "orders": ORDERS}, PAPER),
    (packing.paper_holds, {"machine": MACHINE, "orders": ORDERS, "paper": PAPER}, True),
    (programs.is_program, {"machine": MACHINE, "thing": PROGRAM}, True),
    (programs.run, {"machine": MACHINE, "program": PROGRAM, "state": STATE}, ((7, 2),) + STATE[1:]),
    (programs.needs, {"meaning": MEANING}, 1),
    (programs.turned, {"machine": MACHINE, "meaning": MEANING}, TURNED),
    (stores.store_of, {"programs": {"x": PROGRAM}}, (PROGRAM, (("x", 0),))),
    (stores.parted, {"store": STORE, "one": 0, "other": 1}, ()),
    (stores.show_program, {"program": PROGRAM}, "0 put a 7 ; end\n"),
    (stores.show_store, {"store": STORE}, STORE_TEXT),
    (stores.read_program, {"machine": MACHINE, "text": "0 put a 7 ; end\n"}, PROGRAM),
    (stores.read_store, {"machine": MACHINE, "text": STORE_TEXT}, STORE),
    (looks.differs, {"machine": SMALL, "meaning": MEANING, "program": PROGRAM}, ((0, 0), (0,), (0,))),
    (looks.unsafe_way, {"machine": MACHINE, "program": UNSAFE}, (0, 1)),
)
MODULES = {module.__name__: module for module in (looks, machines, meanings, packing, programs, stores, texts)}
METHODS = {"do": ["name"], "go": ["rows"], "ring": ["number"], "mend": ["cells"], "leave": [], "book": [], "state": [],
           "rows_done": [], "bells": [], "waiting": [], "is_still": [], "is_going": []}


class Arguments(unittest.TestCase):
    def test_by_name(self):
        for function, arguments, told in CALLS:
            self.assertEqual(function(**arguments), told)
            backwards = {name: arguments[name] for name in reversed(arguments)}
            self.assertEqual(function(**backwards), told)

    def test_by_place(self):
        for function, arguments, told in CALLS:
            self.assertEqual(function(*arguments.values()), told)

    def test_names_stand_in_the_told_order(self):
        for function, arguments, told in CALLS:
            self.assertEqual(list(inspect.signature(function).parameters), list(arguments))

    def test_functions_stand_in_the_told_modules(self):
        for function, arguments, told in CALLS:
            self.assertIs(getattr(MODULES[function.__module__], function.__name__), function)

    def test_refused_by_name_too(self):
        with self.assertRaises(NoText):
            texts.read_row(text="", machine=MACHINE)
        with self.assertRaises(NoText):
            texts.read_machine(text="")
        with self.assertRaises(NoText):
            meanings.read_meaning(text="", machine=MACHINE)
        with self.assertRaises(TooMany):
            packing.packed(orders=ORDERS * 11, machine=MACHINE)
        with self.assertRaises(TooMany):
            packing.paper_of(orders=ORDERS * 11, machine=MACHINE)
        with self.assertRaises(NoRoom):
            programs.turned(meaning=MEANING, machine=(4, ("a", "b"), 0, 1, 1, 0))
        with self.assertRaises(NoRow):
            stores.parted(other=0, one=2, store=STORE)
        with self.assertRaises(NoText):
            stores.read_program(text="", machine=MACHINE)
        with self.assertRaises(NoText):
            stores.read_store(text="", machine=MACHINE)
        with self.assertRaises(TooMany):
            looks.differs(program=PROGRAM, meaning=MEANING, machine=MACHINE)


class LoftArguments(unittest.TestCase):
    def test_methods_stand_in_the_class_itself(self):
        for name, arguments in METHODS.items():
            self.assertTrue(inspect.isfunction(vars(Loft)[name]), name)
            self.assertEqual(list(inspect.signature(vars(Loft)[name]).parameters)[1:], arguments)

    def test_defaults_and_what_is_by_name_alone(self):
        self.assertEqual(loft.ROWS, 100)
        rows = inspect.signature(Loft.go).parameters["rows"]
        self.assertEqual((rows.default, rows.kind), (100, rows.KEYWORD_ONLY))
        made = inspect.signature(Loft).parameters
        self.assertEqual(list(made), ["machine", "store", "state"])
        self.assertEqual((made["state"].default, made["state"].kind), (None, rows.KEYWORD_ONLY))
        for told in (Loft(MACHINE, STORE, state=STATE), Loft(state=STATE, store=STORE, machine=MACHINE),
                     Loft(MACHINE, store=STORE, state=STATE)):
            self.assertEqual(told.state(), STATE)

    def test_by_name(self):
        told = Loft(SMALL, (UNSAFE, (("x", 0),)))
        told.do(name="x")
        self.assertEqual(told.go(rows=5), 1)
        told.ring(number=3)
        told.mend(cells=7)
        self.assertEqual(told.book(), [("trap", "x", 7), ("bell", 3, (7, 0))])
        for refusal, call, arguments in ((NoName, told.do, {"name": "y"}), (NotStill, told.mend, {"cells": 0}),
                                         (NotStill, told.leave, {}), (NoLoft, Loft, {"machine": 0, "store": 0})):
            with self.assertRaises(refusal):
                call(**arguments)
        told = Loft(SMALL, (UNSAFE, (("x", 0),)))
        told.do("x")
        told.go()
        with self.assertRaises(NoCells):
            told.mend(cells=16)


class Kept(unittest.TestCase):
    def test_a_list_handed_in_is_as_it_was(self):
        orders = [("put", B, 7), ("put", A, 10), ("alu", "add", A, A, B)]
        before = list(orders)
        machines.sorted_row(orders)
        machines.is_row(MACHINE, orders)
        machines.is_order(MACHINE, orders)
        machines.is_state(MACHINE, orders)
        machines.is_machine(orders)
        self.assertEqual(orders, before)

    def test_lists_within_what_is_asked_of_anything_are_as_they_were(self):
        thing = [("do", [["a", B]], []), [ROW], [3, [[[0], 1]]]]
        before = copy.deepcopy(thing)
        for part in (thing, *thing):
            meanings.is_meaning(MACHINE, part)
            packing.holds_list(MACHINE, ORDERS, part)
            packing.paper_holds(MACHINE, ORDERS, part)
            programs.is_program(MACHINE, part)
            for made in ((part, STORE, None), (MACHINE, part, None), (MACHINE, STORE, part)):
                with self.assertRaises(NoLoft):
                    Loft(made[0], made[1], state=made[2])
        self.assertEqual(thing, before)
        self.assertEqual(ORDERS, [("put", A, 7)])

    def test_a_told_list_is_a_new_one(self):
        told = packing.packed(MACHINE, ORDERS)
        self.assertIsNot(told, packing.packed(MACHINE, ORDERS))
        told.append(())
        self.assertEqual(packing.packed(MACHINE, ORDERS), [ROW])

    def test_asked_again_tells_the_same(self):
        for function, arguments, told in CALLS + CALLS:
            self.assertEqual(function(**arguments), told)


if __name__ == "__main__":
    unittest.main()
