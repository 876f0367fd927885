"""[11] and [12]: what a meaning is, and what it does."""

import itertools
import random
import unittest

from steploft.meanings import is_meaning, meant
from things import A, B, MACHINE, OPS, Plain, anything, levels_of, nested, nested_lists, some_meaning, some_state

NOP = ("do", (), ())
ONE = ("num", 1)
MEMORY = (9, 8, 7, 6, 5, 4, 3, 2, 1, 0)


def set_to(term, name="a"):
    return ("do", ((name, term),), ())


def deep(levels, leaf=ONE):
    """A term of so many levels."""
    for step in range(levels - 1):
        leaf = ("load", leaf)
    return leaf


def deep_if(levels, leaf=NOP):
    for step in range(levels - 1):
        leaf = ("if", ONE, NOP, leaf)
    return leaf


class Told(unittest.TestCase):
    def yes(self, thing, machine=MACHINE):
        self.assertIs(is_meaning(machine, thing), True, thing)

    def no(self, thing, machine=MACHINE):
        self.assertIs(is_meaning(machine, thing), False, thing)


class Terms(Told):
    def each(self, told, term):
        """The term in each place that a term has."""
        for thing in (set_to(term), ("do", (), ((term, ONE),)), ("do", (), ((ONE, term),)), ("if", term, NOP, NOP),
                      set_to(("load", term)), set_to(("add", term, ONE)), set_to(("add", ONE, term)),
                      ("do", (("a", ONE), ("b", term)), ()), ("if", ONE, set_to(term), NOP),
                      ("if", ONE, NOP, set_to(term))):
            told(thing)

    def test_each_form(self):
        for term in (A, B, ("num", 0), ("num", 15), ("load", A), ("load", ONE), ("load", ("load", A))):
            self.each(self.yes, term)
        for op in OPS:
            for one, other in itertools.product((A, ONE, ("load", B)), repeat=2):
                self.each(self.yes, (op, one, other))

    def test_registers_that_the_machine_has_not(self):
        for name in ("c", "A", "", "ab", "h0", None, True, 0, ("a",), ["a"], b"a", nested(90)):
            self.each(self.no, ("reg", name))

    def test_hidden_places_are_no_terms(self):
        self.each(self.no, ("hid", 0))

    def test_numbers_that_are_no_words(self):
        for number in (-1, 16, 999999999, True, False, None, "1", 1.0, (1,), [1], {}, nested(90)):
            self.each(self.no, ("num", number))
        self.yes(set_to(("num", 255)), (8, ("a",), 0, 1, 1, 0))
        self.no(set_to(("num", 256)), (8, ("a",), 0, 1, 1, 0))
        self.no(set_to(("num", 2)), (1, ("a",), 0, 1, 1, 0))

    def test_other_words(self):
        for word in ("", "mul", "ADD", "num", "reg", "load", "do", "if", "move", None, True, 0, b"add", ("add",),
                     ["add"], {}, Plain()):
            self.each(self.no, (word, A, B))
        for word in ("", "add", "NUM", "do", "if", "put", "store", None, 1, ["reg"], ("reg",), {}):
            self.each(self.no, (word, 1))
            self.each(self.no, (word, "a"))
            self.each(self.no, (word, A))

    def test_a_part_more_or_less(self):
        for term in (A, ONE, ("load", A), ("add", A, B)):
            self.each(self.yes, term)
            self.each(self.no, term[:-1])
            self.each(self.no, term + (A,))
            self.each(self.no, term + (1,))
            self.each(self.no, term[:1])
            self.each(self.no, (term,))

    def test_lists_in_the_place_of_tuples(self):
        for term in (A, ONE, ("load", A), ("add", A, B)):
            self.each(self.no, list(term))
        self.each(self.no, ("load", ["reg", "a"]))
        self.each(self.no, ("add", A, ["num", 1]))

    def test_bare_things(self):
        for term in ("a", 1, None, True, (), [], {}, NOP, set_to(A), ("if", ONE, NOP, NOP), nested(90),
                     nested_lists(90), Plain()):
            self.each(self.no, term)


class Done(Told):
    def test_dos(self):
        self.yes(NOP)
        self.yes(set_to(B))
        self.yes(("do", (("a", B), ("b", A)), ()))
        self.yes(("do", (("b", B), ("a", B)), ()))
        self.yes(("do", (), ((A, B),)))
        self.yes(("do", (("a", ONE),), ((ONE, ONE),)))

    def test_ifs(self):
        self.yes(("if", A, NOP, NOP))
        self.yes(("if", A, ("if", B, NOP, set_to(B)), ("if", ONE, NOP, NOP)))

    def test_a_register_twice_in_the_sets(self):
        self.no(("do", (("a", ONE), ("a", ONE)), ()))
        self.no(("do", (("a", ONE), ("b", ONE), ("a", B)), ()))
        names = tuple("abcdef")
        self.yes(("do", tuple((name, ONE) for name in names), ()), (4, names, 0, 1, 1, 0))

    def test_a_register_that_the_machine_has_not(self):
        for name in ("c", "", "A", "h0", None, True, 0, A, ["a"], b"a", {}, nested(90), Plain()):
            self.no(set_to(ONE, name))
            self.no(("do", (("a", ONE), (name, ONE)), ()))
            self.no(("do", ((name, ONE), (name, ONE)), ()))

    def test_two_stores(self):
        self.no(("do", (), ((A, B), (A, B))))
        self.no(("do", (), ((A, B), (B, A))))
        self.no(("do", (("a", B),), ((A, B), (B, A))))

    def test_sets_of_other_forms(self):
        for sets in (None, True, 0, "", "a", [], {}, [("a", ONE)], ("a", ONE), (["a", ONE],), (("a",),), ((),),
                     (("a", ONE, ONE),), (("a", "=", ONE),), ("ab",), (None,), ((A, ONE),), ((ONE, "a"),), nested(90)):
            self.no(("do", sets, ()))

    def test_stores_of_other_forms(self):
        for stores in (None, False, 0, "", [], {}, [(A, B)], (A, B), ([A, B],), ((A,),), ((),), ((A, B, A),),
                       (("a", B),), ("ab",), (None,), ((A, B), ()), nested(90)):
            self.no(("do", (), stores))

    def test_a_part_more_or_less(self):
        for thing in (NOP, set_to(B), ("if", A, NOP, NOP)):
            self.no(thing[:-1])
            self.no(thing[:1])
            self.no(thing + ((),))
            self.no(thing + (NOP,))
            self.no((thing,))
            self.no(list(thing))
        self.no(("if", A, NOP))
        self.no(("if", NOP, NOP, NOP))
        self.no(("if", A, A, NOP))
        self.no(("if", A, NOP, A))
        self.no(("if", A, NOP, list(NOP)))
        self.no(("if", A, list(NOP), NOP))
        self.no(("if", A, (), ()))
        self.no(("if", A, None, NOP))

    def test_other_words(self):
        for word in ("", "DO", "If", "then", "nop", "set", None, True, 0, ["do"], ("do",), b"do", {}, Plain()):
            self.no((word, (), ()))
            self.no((word, A, NOP, NOP))

    def test_terms_are_no_meanings(self):
        for term in (A, ONE, ("load", A), ("add", A, B)):
            self.no(term)

    def test_anything(self):
        for thing in anything() + [nested(100, NOP), nested(97, NOP), nested_lists(100)]:
            self.no(thing)
            self.no(("do", thing, thing))
            self.no(("if", thing, NOP, NOP))
            self.no(("if", A, thing, NOP))
            self.no(("if", A, NOP, thing))

    def test_a_hundred_deep(self):
        self.no(deep_if(100))
        self.no(set_to(deep(97)))
        self.no(("if", deep(97), NOP, NOP))
        wide = ONE
        for step in range(90):
            wide = ("add", wide, wide)
        self.no(set_to(wide))
        wide = NOP
        for step in range(90):
            wide = ("if", ONE, wide, wide)
        self.no(wide)


class Levels(Told):
    def test_a_do_has_one_level_more_than_its_terms(self):
        for levels in range(1, 6):
            self.yes(set_to(deep(levels)))
            self.yes(("do", (), ((deep(levels), ONE),)))
            self.yes(("do", (), ((ONE, deep(levels)),)))
            self.yes(set_to(deep(levels, A)))
        for levels in range(6, 12):
            self.no(set_to(deep(levels)))
            self.no(("do", (), ((deep(levels), ONE),)))
            self.no(("do", (), ((ONE, deep(levels)),)))
            self.no(set_to(deep(levels, A)))

    def test_each_side_of_an_op(self):
        self.yes(set_to(("add", deep(4), deep(4))))
        self.no(set_to(("add", deep(5), ONE)))
        self.no(set_to(("add", ONE, deep(5))))

    def test_ifs(self):
        self.yes(deep_if(6))
        self.no(deep_if(7))
        self.yes(deep_if(5, set_to(A)))
        self.no(deep_if(6, set_to(A)))
        self.yes(("if", deep(5), NOP, NOP))
        self.no(("if", deep(6), NOP, NOP))
        self.no(("if", ONE, deep_if(6), NOP))

    def test_a_test_counts_from_its_if(self):
        self.yes(deep_if(4, ("if", deep(2), NOP, NOP)))
        self.no(deep_if(4, ("if", deep(3), NOP, NOP)))

    def test_by_chance(self):
        rng = random.Random(11)
        told = []
        for step in range(3000):
            thing = some_meaning(rng, MACHINE, rng.randrange(1, 10))
            self.assertIs(is_meaning(MACHINE, thing), levels_of(thing) <= 6, thing)
            told.append(levels_of(thing))
        self.assertLessEqual({1, 2, 3, 4, 5, 6, 7, 8}, set(told))


class Meant(unittest.TestCase):
    def told(self, meaning, a=0, b=0, memory=MEMORY, hidden=(0, 0)):
        self.assertTrue(is_meaning(MACHINE, meaning), meaning)
        return meant(MACHINE, meaning, ((a, b), hidden, memory))

    def word(self, term, a=0, b=0):
        visible, memory = self.told(set_to(term), a, b)
        self.assertEqual((visible[1:], memory), ((b,), MEMORY))
        self.assertIs(type(visible[0]), int)
        return visible[0]

    def traps(self, meaning, a=0, b=0):
        self.assertEqual(self.told(meaning, a, b), ("trap",))

    def test_nothing(self):
        self.assertEqual(self.told(NOP, 3, 4), ((3, 4), MEMORY))

    def test_terms(self):
        self.assertEqual(self.word(A, 3, 4), 3)
        self.assertEqual(self.word(B, 3, 4), 4)
        self.assertEqual(self.word(("num", 7), 3, 4), 7)
        self.assertEqual(self.word(("load", B), 3, 4), 5)
        self.assertEqual(self.word(("load", ("load", B)), 3, 4), 4)
        self.assertEqual(self.word(("sub", ("load", A), ("num", 2)), 3, 4), 4)

    def test_each_op(self):
        for a, b in itertools.product(range(16), repeat=2):
            right = {"add": (a + b) & 15, "sub": (a - b) & 15, "and": a & b, "or": a | b, "xor": a ^ b,
                     "less": 1 if a < b else 0, "same": 1 if a == b else 0}
            for op in OPS:
                self.assertEqual(self.word((op, A, B), a, b), right[op], (op, a, b))

    def test_ops_go_round_within(self):
        self.assertEqual(self.word(("less", ("add", A, ("num", 1)), ("num", 1)), 15), 1)
        self.assertEqual(self.word(("sub", ("sub", A, ("num", 1)), ("num", 15)), 0), 0)

    def test_all_terms_read_what_stands_ahead(self):
        self.assertEqual(self.told(("do", (("a", B), ("b", A)), ()), 3, 4), ((4, 3), MEMORY))
        self.assertEqual(self.told(("do", (("b", A), ("a", B)), ()), 3, 4), ((4, 3), MEMORY))
        both = ("do", (("a", ("add", A, B)), ("b", ("add", A, B))), ())
        self.assertEqual(self.told(both, 3, 4), ((7, 7), MEMORY))

    def test_a_store(self):
        self.assertEqual(self.told(("do", (), ((A, B),)), 3, 4), ((3, 4), MEMORY[:3] + (4,) + MEMORY[4:]))
        self.assertEqual(self.told(("do", (), ((ONE, ("load", A)),)), 3, 4), ((3, 4), (9, 6) + MEMORY[2:]))

    def test_a_store_beside_sets_reads_what_stands_ahead(self):
        thing = ("do", (("a", ("load", A)), ("b", ("num", 15))), ((A, B),))
        self.assertEqual(self.told(thing, 3, 4), ((6, 15), MEMORY[:3] + (4,) + MEMORY[4:]))

    def test_the_last_cell_and_the_first_number_beyond(self):
        self.assertEqual(self.word(("load", A), 9), 0)
        self.traps(set_to(("load", A)), 10)
        self.traps(set_to(("load", A)), 15)
        self.assertEqual(self.told(("do", (), ((A, B),)), 9, 4), ((9, 4), MEMORY[:9] + (4,)))
        self.traps(("do", (), ((A, B),)), 10, 4)
        self.traps(("do", (), ((("num", 15), B),)), 10, 4)

    def test_a_machine_without_cells(self):
        machine = (1, ("a",), 0, 1, 1, 0)
        self.assertEqual(meant(machine, set_to(("load", A)), ((0,), (), ())), ("trap",))
        self.assertEqual(meant(machine, ("do", (), ((A, A),)), ((0,), (), ())), ("trap",))
        self.assertEqual(meant(machine, set_to(("num", 1)), ((0,), (), ())), ((1,), ()))

    def test_traps_wherever_a_term_is_worked_out(self):
        bad = ("load", ("num", 12))
        for term in (bad, ("load", bad), ("add", bad, ONE), ("add", ONE, bad), ("and", ("num", 0), bad)):
            self.traps(set_to(term))
            self.traps(("do", (("a", ONE), ("b", term)), ()))
            self.traps(("do", (("b", term), ("a", ONE)), ()))
            self.traps(("do", (), ((term, ONE),)))
            self.traps(("do", (), ((ONE, term),)))
            self.traps(("do", (("a", term),), ((ONE, ONE),)))
            self.traps(("do", (("a", ONE),), ((ONE, term),)))
            self.traps(("if", term, NOP, NOP))
            self.traps(("if", ONE, set_to(term), NOP))
            self.traps(("if", ("num", 0), NOP, set_to(term)))

    def test_the_way_that_is_not_gone_traps_nothing(self):
        bad = set_to(("load", ("num", 12)))
        worse = ("if", ("load", ("num", 12)), NOP, NOP)
        for way in (bad, worse, ("do", (), ((("num", 10), ONE),))):
            self.assertEqual(self.told(("if", A, set_to(B), way), 2, 5), ((5, 5), MEMORY))
            self.assertEqual(self.told(("if", A, way, set_to(B)), 0, 5), ((5, 5), MEMORY))
            self.traps(("if", A, way, NOP), 2)
            self.traps(("if", A, NOP, way), 0)

    def test_ways(self):
        thing = ("if", A, set_to(("num", 5)), set_to(("num", 6)))
        self.assertEqual(self.told(thing, 0)[0][0], 6)
        for a in range(1, 16):
            self.assertEqual(self.told(thing, a)[0][0], 5)

    def test_ifs_within_ifs(self):
        inner = ("if", B, set_to(("num", 1)), set_to(("num", 2)))
        outer = ("if", A, inner, ("if", B, set_to(("num", 3)), set_to(("num", 4))))
        told = [self.told(outer, a, b)[0][0] for a in (1, 0) for b in (1, 0)]
        self.assertEqual(told, [1, 2, 3, 4])

    def test_hidden_words_change_nothing(self):
        rng = random.Random(12)
        for step in range(300):
            meaning = some_meaning(rng, MACHINE, 6)
            visible, hidden, memory = some_state(rng, MACHINE)
            told = meant(MACHINE, meaning, (visible, hidden, memory))
            for other in ((0, 0), (15, 15), (3, 12)):
                self.assertEqual(meant(MACHINE, meaning, (visible, other, memory)), told)

    def test_kinds_of_what_is_told(self):
        told = self.told(("do", (("a", B),), ((A, B),)), 1, 2)
        self.assertIsInstance(told, tuple)
        self.assertTrue(all(isinstance(part, tuple) for part in told))


if __name__ == "__main__":
    unittest.main()
