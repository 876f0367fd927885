"""[13]: texts of meanings, and back to the same."""

import itertools
import random
import unittest

from steploft.errors import NoText
from steploft.meanings import is_meaning, read_meaning, show_meaning
from things import A, B, MACHINE, OPS, some_meaning

NOP = ("do", (), ())
ONE = ("num", 1)
WIDE = (8, ("if", "then", "else", "nop", "add", "a"), 4, 1, 1, 100)
PAIRS = (
    (NOP, "nop"),
    (("do", (("a", B),), ()), "a = b"),
    (("do", (("a", ("num", 0)),), ()), "a = 0"),
    (("do", (("a", ("add", B, ONE)),), ((A, ("num", 3)),)), "a = (b add 1) ; [a] = 3"),
    (("do", (), ((A, ("num", 3)),)), "[a] = 3"),
    (("do", (), ((("load", A), ("load", ("num", 10))),)), "[[a]] = [10]"),
    (("do", (("b", A), ("a", B)), ()), "b = a ; a = b"),
    (("do", (("a", ("less", ("load", A), ("sub", B, B))),), ()), "a = ([a] less (b sub b))"),
    (("do", (("a", ("load", ("xor", A, B))),), ()), "a = [(a xor b)]"),
    (("if", ("less", A, B), ("do", (("a", ("load", ("num", 0))),), ()), NOP),
     "if (a less b) then { a = [0] } else { nop }"),
    (("if", A, ("if", B, NOP, NOP), ("if", ONE, NOP, ("do", (), ((A, A),)))),
     "if a then { if b then { nop } else { nop } } else { if 1 then { nop } else { [a] = a } }"),
)


def reg(name):
    return ("reg", name)


class Refusals(unittest.TestCase):
    def refused(self, text, machine=MACHINE):
        with self.assertRaises(NoText) as caught:
            read_meaning(machine, text)
        self.assertEqual(caught.exception.row, 1)

    def no(self, *texts):
        for text in texts:
            self.refused(text)

    def back(self, machine, meaning):
        self.assertTrue(is_meaning(machine, meaning), meaning)
        self.assertEqual(read_meaning(machine, show_meaning(meaning)), meaning)

    def same_or_refused(self, machine, text):
        try:
            told = read_meaning(machine, text)
        except NoText as error:
            self.assertEqual(error.row, 1)
            return
        self.assertTrue(is_meaning(machine, told), text)
        self.assertEqual(show_meaning(told), text)


class Shown(Refusals):
    def test_shown_and_read(self):
        for meaning, text in PAIRS:
            self.assertEqual(show_meaning(meaning), text)
            self.assertEqual(read_meaning(MACHINE, text), meaning)

    def test_each_op(self):
        for op in OPS:
            meaning = ("do", (("a", (op, A, B)),), ())
            self.assertEqual(show_meaning(meaning), f"a = (a {op} b)")
            self.back(MACHINE, meaning)


class ReadBack(Refusals):
    def test_registers_called_as_words_of_the_texts(self):
        names = WIDE[1]
        for one, other in itertools.product(names, repeat=2):
            self.back(WIDE, ("do", ((one, reg(other)),), ()))
            self.back(WIDE, ("do", ((one, ("add", reg(other), reg(one))),), ((reg(one), reg(other)),)))
            self.back(WIDE, ("do", (), ((reg(one), reg(other)),)))
            done = ("do", ((one, reg(other)),), ())
            self.back(WIDE, ("if", reg(one), done, NOP))
            self.back(WIDE, ("if", reg(one), NOP, done))
            self.back(WIDE, ("if", ("load", reg(one)), done, ("if", reg(other), done, done)))
            self.back(WIDE, ("if", ("and", reg(one), reg(other)), done, done))
            if one != other:
                self.back(WIDE, ("do", ((one, reg(other)), (other, reg(one))), ()))

    def test_such_texts(self):
        self.assertEqual(read_meaning(WIDE, "if = nop"), ("do", (("if", reg("nop")),), ()))
        self.assertEqual(read_meaning(WIDE, "nop = if ; if = nop"),
                         ("do", (("nop", reg("if")), ("if", reg("nop"))), ()))
        self.assertEqual(read_meaning(WIDE, "if if then { if = if } else { nop = then }"),
                         ("if", reg("if"), ("do", (("if", reg("if")),), ()), ("do", (("nop", reg("then")),), ())))
        self.assertEqual(read_meaning(WIDE, "if then then { then = else } else { else = (add add add) }"),
                         ("if", reg("then"), ("do", (("then", reg("else")),), ()),
                          ("do", (("else", ("add", reg("add"), reg("add"))),), ())))
        self.assertEqual(read_meaning(WIDE, "nop"), NOP)

    def test_such_texts_refused(self):
        for text in ("if", "nop nop", "if nop", "then", "if = ", "nop =", "if then { nop } else { nop }",
                     "if if { nop } else { nop }", "if = then { nop } else { nop }", "nop ; a = if", "a = if ; nop"):
            self.refused(text, WIDE)

    def test_six_levels(self):
        self.back(MACHINE, ("do", (("a", ("load", ("load", ("load", ("load", A))))),), ()))
        self.back(MACHINE, read_meaning(MACHINE, "a = ((((a add 1) add 1) add 1) add (1 add (1 add (1 add 1))))"))
        text = "nop"
        for step in range(5):
            text = f"if [b] then {{ {text} }} else {{ {text} }}" if step else "if b then { nop } else { nop }"
        self.assertEqual(show_meaning(read_meaning(MACHINE, text)), text)

    def test_by_chance(self):
        rng = random.Random(13)
        for machine in (MACHINE, WIDE):
            for step in range(1500):
                self.back(machine, some_meaning(rng, machine, 6))


class Refused(Refusals):
    def test_empty(self):
        self.no("", " ", "\t", ";", "{ }", "{ nop }", "=", "a", "1", "[a]", "(a add b)")

    def test_blanks(self):
        self.no("a  = b", "a =  b", "a= b", "a =b", "a=b", " a = b", "a = b ", "a\t= b", "a =\tb", " nop", "nop ")
        self.no("a = b  ; b = a", "a = b ;  b = a", "a = b; b = a", "a = b ;b = a", "a = b ; b = a ", "a = b;b = a")
        self.no("a = (a  add b)", "a = (a add  b)", "a = (aadd b)", "a = (a addb)", "a = (a\tadd b)")
        self.no("if  a then { nop } else { nop }", "if a  then { nop } else { nop }", "if a then  { nop } else { nop }",
                "if a then {nop} else { nop }", "if a then { nop } else {nop}", "if a then { nop} else { nop }",
                "if a then{ nop } else { nop }", "if a then { nop }else { nop }", "if a then { nop } else{ nop }",
                "if a then { nop } else { nop } ", "ifa then { nop } else { nop }", "if a then {  nop } else { nop }",
                "if(a add b) then { nop } else { nop }", "if [a]then { nop } else { nop }")

    def test_blanks_at_the_edges_of_brackets(self):
        self.no("a = [ b]", "a = [b ]", "a = [ b ]", "a = ( a add b)", "a = (a add b )", "a = ( a add b )",
                "[ a] = b", "[a ] = b", "[a]= b", "[a] =b", "a = [[b] ]", "a = [ [b]]", "a = ([a]add b)",
                "a = (a add[b])", "a = ((a add b)add b)")

    def test_a_bracket_more_or_less(self):
        self.no("a = [b", "a = b]", "a = [[b]", "a = [b]]", "a = (a add b", "a = a add b", "a = a add b)", "a = [b)",
                "a = (a add b]", "a = ((a add b)", "a = (a add b))", "a = (b)", "a = ((a add b))", "[a = b", "a] = b",
                "a = []", "a = ()", "[] = a", "(a) = b", "(a = b)", "[[a] = b", "[a]] = b")
        self.no("if a then { nop } else { nop", "if a then { nop } else nop }", "if a then nop } else { nop }",
                "if a then { nop else { nop }", "if a then { nop } else { nop } }",
                "if a then { { nop } } else { nop }", "if a then { nop } else { { nop } }",
                "if a then { } else { nop }", "if a then { nop } else { }", "if a then nop else nop")

    def test_brackets_two_hundred_deep(self):
        for many in (200, 2000, 100000):
            self.no("a = " + "[" * many + "b" + "]" * many, "[" * many + "b" + "]" * many + " = a",
                    "a = " + "(" * many + "b" + " add b)" * many, "a = " + "[" * many, "a = " + "(" * many,
                    "if " + "[" * many, "if a then { " * many,
                    "if a then { " * many + "nop" + " } else { nop }" * many,
                    "if a then { nop } else { " * many + "nop" + " }" * many, "]" * many, ")" * many, "} " * many)

    def test_numbers(self):
        self.no("a = 01", "a = 00", "a = 007", "a = [01]", "a = (01 add b)", "[00] = 1", "a = +1", "a = -1", "a = 1.0",
                "a = 1_0", "a = 16", "a = 999999999", "a = 1000000001", "a = 0x1", "a = " + "9" * 5000,
                "a = " + "0" * 5000, "1 = a", "1 = 1", "a1 = b", "a = 1a", "if 01 then { nop } else { nop }")

    def test_registers_that_the_machine_has_not(self):
        self.no("c = a", "a = c", "a = [c]", "[c] = a", "[a] = c", "a = (a add c)", "A = b", "a = B", "a = h0",
                "h0 = a", "ab = a", "a = hid", "a = reg", "if c then { nop } else { nop }", "= a", "a =")

    def test_ops(self):
        self.no("a = (a mul b)", "a = (a ADD b)", "a = (a b)", "a = (add a b)", "a = (a add add b)", "a = (a load b)",
                "a = (a reg b)", "a = (a num b)", "a = (a + b)", "a = (a add b add b)", "a = (a if b)", "a = (a ; b)",
                "a = (a do b)", "a = add a b", "a = (a = b)")

    def test_sets_behind_the_store(self):
        self.no("[a] = b ; a = b", "a = b ; [a] = b ; b = a", "[a] = b ; [b] = a", "a = 1 ; [a] = b ; [b] = a",
                "[a] = b ; [a] = b")

    def test_a_register_set_twice(self):
        self.no("a = 1 ; a = 1", "a = 1 ; b = 1 ; a = 2", "a = 1 ; a = 2 ; [a] = 1")

    def test_parts_that_lack_or_are_more(self):
        self.no("a = b ;", "a = b ; ", "; a = b", " ; a = b", "a = b ; ; b = a", "a = b b = a", "a = b , b = a",
                "a = b ; nop", "nop ; a = b", "nop ; nop", "nop nop", "a b", "a = b = a", "a = b a", "[a] b", "[a] = ",
                "[a] =", "= b", "a == b", "NOP", "a = nop", "nop = a", "a = b ; if a then { nop } else { nop }")
        self.no("if a", "if a then", "if a then { nop }", "if a then { nop } else", "if then { nop } else { nop }",
                "if a else { nop }", "if a { nop } else { nop }", "if a then { nop } { nop }",
                "if a then { nop } then { nop }", "if a else { nop } then { nop }", "IF a then { nop } else { nop }",
                "if a then { nop } else { nop } else { nop }", "if a then { nop } else { nop } ; a = b",
                "if a then { nop } else { nop } nop", "if a b then { nop } else { nop }",
                "if a = b then { nop } else { nop }", "if nop then { nop } else { nop }",
                "if a then { a = b ; } else { nop }", "if a then { a } else { nop }", "then { nop } else { nop }")

    def test_seven_levels(self):
        self.assertTrue(read_meaning(MACHINE, "a = [[[[b]]]]"))
        self.no("a = [[[[[b]]]]]", "[[[[[[b]]]]]] = 1", "[1] = [[[[[b]]]]]")
        self.no("a = (1 add (1 add (1 add (1 add (1 add 1)))))", "a = (((((1 add 1) add 1) add 1) add 1) add 1)")
        self.no("if [[[[[a]]]]] then { nop } else { nop }")
        text = "nop"
        for step in range(5):
            text = "if a then { " + text + " } else { nop }"
        self.assertTrue(read_meaning(MACHINE, text))
        self.no("if a then { " + text + " } else { nop }", "if a then { nop } else { " + text + " }",
                text.replace("{ nop }", "{ a = b }"))

    def test_near_texts_are_the_same_or_refused(self):
        signs = [chr(code) for code in range(32, 127)] + ["\t"]
        machine = (2, ("a", "if"), 2, 2, 1, 2)
        for text in ("a = (if add 1) ; [a] = 3", "if if then { if = a } else { nop }", "if = [1]", "nop"):
            for at in range(len(text) + 1):
                self.same_or_refused(machine, text[:at] + text[at + 1:])
                for sign in signs:
                    self.same_or_refused(machine, text[:at] + sign + text[at:])
                    self.same_or_refused(machine, text[:at] + sign + text[at + 1:])

    def test_words_by_chance_are_the_same_or_refused(self):
        rng = random.Random(14)
        words = ("a", "if", "then", "else", "nop", "{", "}", "=", ";", "[a]", "1", "(a add a)", "[", "]", "(", ")")
        machine = (2, ("a", "if", "then", "else", "nop"), 0, 1, 1, 0)
        for step in range(20000):
            text = " ".join(rng.choice(words) for part in range(rng.randrange(1, 9)))
            self.same_or_refused(machine, text)

    def test_short_texts_are_the_same_or_refused(self):
        for many in range(5):
            for signs in itertools.product("a =[]1(;", repeat=many):
                self.same_or_refused(MACHINE, "".join(signs))


if __name__ == "__main__":
    unittest.main()
