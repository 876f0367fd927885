"""[18] and [4]: how many hidden places a meaning needs, and the program that it is turned into."""

import random
import unittest

from steploft.errors import NoRoom, TooMany
from steploft.machines import row_done, word_at
from steploft.meanings import is_meaning, meant, read_meaning
from steploft.packing import packed
from steploft.programs import is_program, needs, run, turned
from things import plain_fewest, some_meaning, some_state

MACHINE = (4, ("a", "b", "c"), 12, 2, 2, 10)
NAMES = (4, tuple("abcdef"), 12, 2, 2, 10)
END = ("end",)


def read(text, machine=NAMES):
    return read_meaning(machine, text)


def with_hidden(many, machine=NAMES):
    return machine[:2] + (many,) + machine[3:]


def unlike(terms):
    """All unlike terms within these that are no registers."""
    found = set()
    for term in terms:
        if term[0] == "num":
            found.add(term)
        elif term[0] != "reg":
            found |= {term} | unlike(term[1:])
    return found


def do_terms(meaning):
    return [term for name, term in meaning[1]] + [term for pair in meaning[2] for term in pair]


def plain_needs(meaning):
    """[18] by its words."""
    if meaning[0] == "if":
        return max(len(unlike([meaning[1]])), plain_needs(meaning[2]), plain_needs(meaning[3]))
    return len(unlike(do_terms(meaning))) + len([1 for name, term in meaning[1] if term[0] == "reg"])


def longest_list(meaning):
    """The most orders that a do or a test of the meaning has."""
    if meaning[0] == "if":
        return max(len(unlike([meaning[1]])), longest_list(meaning[2]), longest_list(meaning[3]))
    return plain_needs(meaning) + len(meaning[1]) + len(meaning[2])


class Needs(unittest.TestCase):
    def many(self, text, many):
        self.assertEqual(needs(read(text)), many, text)
        self.assertIs(type(needs(read(text))), int)

    def test_terms(self):
        self.many("nop", 0)
        self.many("a = 1", 1)
        self.many("a = [1]", 2)
        self.many("a = (b add c)", 1)
        self.many("a = (b add 1)", 2)
        self.many("a = ([b] add (c sub 3))", 4)

    def test_like_terms_are_counted_once_within_one_do(self):
        self.many("a = (1 add 1)", 2)
        self.many("a = 1 ; b = 1", 1)
        self.many("a = 1 ; b = 2", 2)
        self.many("a = (b add 1) ; b = (b add 1) ; c = 1", 2)
        self.many("a = (b add c) ; b = (c add b)", 2)
        self.many("a = [b] ; [b] = [b]", 1)
        self.many("[3] = 3", 1)
        self.many("[[3]] = [3]", 2)
        self.many("[a] = b", 0)
        self.many("a = ((b add c) sub (b add c))", 2)

    def test_registers_are_not_counted_but_as_a_sets_term(self):
        self.many("a = b", 1)
        self.many("a = a", 1)
        self.many("a = b ; b = b ; c = b", 3)
        self.many("a = b ; [a] = b", 1)
        self.many("a = b ; b = (a add b)", 2)
        self.many("a = [b] ; b = [b] ; c = b", 2)

    def test_ifs_by_the_greatest(self):
        self.many("if a then { nop } else { nop }", 0)
        self.many("if (a add 1) then { nop } else { a = 1 }", 2)
        self.many("if a then { a = [1] } else { a = 1 }", 2)
        self.many("if a then { a = 1 } else { a = b ; b = a ; c = a }", 3)
        self.many("if 1 then { a = 1 } else { a = 1 }", 1)
        self.many("if [(1 add 2)] then { a = 1 } else { if [[[4]]] then { nop } else { nop } }", 4)
        self.many("if a then { if b then { a = (b add 2) } else { nop } } else { nop }", 2)

    def test_by_chance(self):
        rng = random.Random(22)
        for step in range(2000):
            meaning = some_meaning(rng, NAMES, 6)
            self.assertEqual(needs(meaning), plain_needs(meaning), meaning)


class Refused(unittest.TestCase):
    def told(self, text, hidden):
        return turned(with_hidden(hidden), read(text))

    def test_one_hidden_place_too_few(self):
        for text in ("a = 1", "a = b", "a = (b add 1) ; [a] = 3", "a = b ; b = a ; c = a",
                     "if 1 then { nop } else { nop }",
                     "if a then { a = [[1]] } else { nop }", "if a then { nop } else { a = [[1]] }",
                     "if (a add 1) then { a = 1 } else { nop }"):
            many = needs(read(text))
            with self.assertRaises(NoRoom):
                self.told(text, many - 1)
            for hidden in (many, many + 1):
                self.assertTrue(is_program(with_hidden(hidden), self.told(text, hidden)))

    def test_no_hidden_places(self):
        for text in ("nop", "[a] = b", "if a then { nop } else { [b] = c }"):
            self.assertTrue(is_program(with_hidden(0), self.told(text, 0)))
        with self.assertRaises(NoRoom):
            self.told("a = a", 0)

    def test_eleven_orders(self):
        ten = ("a = 1 ; b = 2 ; c = 3 ; d = 4 ; e = 5", "a = b ; b = c ; c = d ; d = e ; e = f",
               "a = 1 ; b = 1 ; c = 1 ; d = 1 ; e = 1 ; f = (a add b) ; [f] = 1",
               "if ((1 add 2) add ((3 add 4) add (5 add a))) then { nop } else { nop }")
        eleven = ("a = 1 ; b = 2 ; c = 3 ; d = 4 ; e = 5 ; [a] = b", "a = b ; b = c ; c = d ; d = e ; e = f ; [a] = f",
                  "a = 1 ; b = 2 ; c = 3 ; d = 4 ; e = 5 ; f = 1",
                  "if ((1 add 2) add ((3 add 4) add (5 add 6))) then { nop } else { nop }")
        for text in ten:
            self.assertTrue(is_program(NAMES, self.told(text, 12)))
            self.assertLessEqual(longest_list(read(text)), 10)
        for text in eleven:
            self.assertEqual(longest_list(read(text)), 11)
            with self.assertRaises(TooMany):
                self.told(text, 12)
            with self.assertRaises(TooMany):
                self.told(text, needs(read(text)))

    def test_in_a_way_that_stands_deep(self):
        long = "a = 1 ; b = 2 ; c = 3 ; d = 4 ; e = 5 ; [a] = b"
        for text in (f"if a then {{ {long} }} else {{ nop }}", f"if a then {{ nop }} else {{ {long} }}",
                     f"if a then {{ if b then {{ nop }} else {{ {long} }} }} else {{ nop }}"):
            with self.assertRaises(TooMany):
                self.told(text, 12)
            with self.assertRaises(NoRoom):
                self.told(text, 4)

    def test_no_room_goes_first(self):
        long = "a = 1 ; b = 2 ; c = 3 ; d = 4 ; e = 5 ; [a] = b"
        test = "((1 add 2) add ((3 add 4) add (5 add 6)))"
        more = "a = [[[1]]] ; b = [[[2]]] ; c = 0"
        with self.assertRaises(NoRoom):
            self.told(long, 4)
        with self.assertRaises(NoRoom):
            self.told(f"if {test} then {{ nop }} else {{ nop }}", 10)
        for text in (f"if a then {{ {long} }} else {{ {more} }}", f"if a then {{ {more} }} else {{ {long} }}"):
            with self.assertRaises(NoRoom):
                self.told(text, 8)
            with self.assertRaises(TooMany):
                self.told(text, 9)

    def test_by_chance(self):
        rng = random.Random(23)
        told = []
        for step in range(1500):
            machine = with_hidden(rng.randrange(13))
            meaning = some_meaning(rng, machine, 6)
            right = None
            if plain_needs(meaning) > machine[2]:
                right = NoRoom
            elif longest_list(meaning) > 10:
                right = TooMany
            try:
                turned(machine, meaning)
                self.assertIsNone(right, meaning)
            except (NoRoom, TooMany) as error:
                self.assertIs(type(error), right, meaning)
            told.append(right)
        self.assertTrue(min(told.count(kind) for kind in (None, NoRoom, TooMany)) > 50)


class Shape(unittest.TestCase):
    def test_nop_is_one_row(self):
        self.assertEqual(turned(NAMES, read("nop")), (((), END),))

    def test_a_test_of_a_register_is_one_row_without_orders(self):
        told = turned(NAMES, read("if a then { nop } else { [a] = b }"))
        self.assertEqual(told[0][0], ())
        self.assertEqual(told[0][1][:2], ("test", ("reg", "a")))
        self.assertEqual(len(told), 3)
        self.assertEqual({told[told[0][1][2]][0], told[told[0][1][3]][0]},
                         {(), (("store", ("reg", "a"), ("reg", "b")),)})

    def test_few_rows(self):
        for text, many in (("a = 1", 2), ("a = b ; b = a", 2), ("[a] = b", 1), ("[a] = 1", 2), ("a = [b]", 2),
                           ("a = (b add 1) ; [a] = 3", 3), ("a = (b add c) ; b = (c add b)", 2), ("a = [1]", 3)):
            self.assertEqual(len(turned(NAMES, read(text))), many, text)

    def test_one_unit_of_each(self):
        machine = (4, tuple("abcdef"), 12, 1, 1, 10)
        for text, many in (("a = b ; b = a", 4), ("a = (b add c) ; b = (c add b)", 3), ("a = 1 ; b = 2 ; c = 3", 6)):
            self.assertEqual(len(turned(machine, read(text))), many, text)


def pieces_of(meaning, program, at=0):
    """The pieces of the program, as (what each is for, its rows), gone down beside the meaning."""
    rows = []
    while True:
        rows.append(program[at])
        onward = program[at][1]
        if onward[0] != "go":
            break
        at = onward[1]
    pieces = [(meaning, rows)]
    if meaning[0] == "if":
        pieces += pieces_of(meaning[2], program, onward[2]) + pieces_of(meaning[3], program, onward[3])
    return pieces


def plain_list(meaning, place):
    """A list of a do or a test, built anew: terms by how deep they are, hidden places from the highest one down."""
    terms = do_terms(meaning) if meaning[0] == "do" else [meaning[1]]
    worked = sorted(unlike(terms), key=lambda term: (depth(term), repr(term)))
    places = {term: ("hid", place - k) for k, term in enumerate(worked)}
    orders = []
    for term in worked:
        parts = tuple(places.get(part, part) for part in term[1:])
        if term[0] == "num":
            orders.append(("put", places[term], term[1]))
        elif term[0] == "load":
            orders.append(("load", places[term]) + parts)
        else:
            orders.append(("alu", term[0], places[term]) + parts)
    if meaning[0] == "if":
        return orders
    moves = []
    for name, term in meaning[1]:
        held = places.get(term)
        if held is None:
            held = ("hid", place - len(orders))
            orders.append(("move", held, term))
        moves.append(("move", ("reg", name), held))
    stores = [("store", places.get(cell, cell), places.get(word, word)) for cell, word in meaning[2]]
    return orders + stores + moves


def depth(term):
    return 0 if term[0] in ("num", "reg") else 1 + max(depth(part) for part in term[1:])


class Programs(unittest.TestCase):
    def check_run(self, machine, meaning, program, state):
        right, told = meant(machine, meaning, state), run(machine, program, state)
        if right == ("trap",):
            self.assertEqual(told[0], "trap", (meaning, state))
        else:
            self.assertEqual((told[0], told[2]), right, (meaning, state))
        return right == ("trap",)

    def check_safe(self, program):
        """No row that may trap is come to behind a row that writes a register or stores, on any way."""
        marked = [False] * len(program)
        for at, (orders, onward) in enumerate(program):
            kinds = [order[0] for order in orders]
            if marked[at]:
                self.assertFalse({"load", "store"} & set(kinds), program)
            writes = any(order[2 if order[0] == "alu" else 1][0] == "reg" for order in orders if order[0] != "store")
            for k in onward[1:] if onward[0] == "go" else onward[2:]:
                marked[k] = marked[k] or marked[at] or writes or "store" in kinds

    def check_pieces(self, machine, meaning, program, fewest):
        pieces = pieces_of(meaning, program)
        for part, rows in pieces:
            orders = plain_list(part, machine[2] - 1)
            laid = [order for row in rows for order in row[0]]
            self.assertEqual(sorted(order[0] for order in laid), sorted(order[0] for order in orders), (part, rows))
            if not orders:
                self.assertEqual([row[0] for row in rows], [()])
                continue
            self.assertTrue(all(row[0] for row in rows), rows)
            self.assertLessEqual(len(rows), fewest(machine, orders), (part, rows))
            self.assertEqual(rows[-1][1][0], "end" if part[0] == "do" else "test")
        self.assertEqual(sum(len(rows) for part, rows in pieces), len(program))

    def check(self, machine, meaning, states, fewest=lambda machine, orders: len(packed(machine, orders))):
        program = turned(machine, meaning)
        self.assertTrue(is_program(machine, program), program)
        self.check_safe(program)
        self.check_pieces(machine, meaning, program, fewest)
        return sum(self.check_run(machine, meaning, program, state) for state in states)

    def test_ordinary(self):
        rng = random.Random(24)
        for text in ("nop", "a = b", "a = b ; b = a", "a = 1", "a = a", "a = (b add 1) ; [a] = 3", "[a] = b",
                     "a = [b] ; [b] = a", "[[a]] = [b]", "a = [a] ; b = [b] ; [c] = 4", "b = [[a]]",
                     "if (a less b) then { a = [0] } else { nop }", "if a then { nop } else { nop }",
                     "if [a] then { if [b] then { a = [c] } else { [c] = a } } else { b = c ; c = b ; [a] = 1 }",
                     "if 0 then { a = [15] } else { a = 2 }", "if 1 then { a = [15] } else { a = 2 }"):
            self.check(MACHINE, read(text, MACHINE), [some_state(rng, MACHINE) for k in range(60)])

    def test_from_all_states_of_a_small_machine(self):
        machine = (1, ("a", "b"), 4, 1, 1, 1)
        states = []
        for number in range(2 ** 7):
            bits = tuple(number >> k & 1 for k in range(7))
            states.append((bits[:2], bits[2:6], bits[6:]))
        for text in ("a = [b] ; b = a", "a = b ; [a] = b", "if [a] then { b = [b] } else { a = b ; [b] = 1 }",
                     "a = b ; b = a ; [b] = a", "if (a same b) then { [a] = (a sub b) } else { nop }"):
            self.check(machine, read(text, machine), states)

    def test_by_chance(self):
        rng = random.Random(25)
        traps = turns = 0
        for step in range(1500):
            machine = (rng.choice((1, 2, 3, 4)), ("a", "b", "c"), 12, rng.randrange(1, 4), rng.randrange(1, 4), 2)
            meaning = some_meaning(rng, machine, 6)
            self.assertTrue(is_meaning(machine, meaning))
            if longest_list(meaning) > 10 or plain_needs(meaning) > 12:
                continue
            turns += 1
            traps += self.check(machine, meaning, [some_state(rng, machine) for k in range(10)])
        self.assertTrue(turns > 1000 and turns < traps < 9 * turns, (turns, traps))

    def test_against_going_through_all(self):
        rng = random.Random(26)
        turns = 0
        for step in range(400):
            machine = (2, ("a", "b"), 12, rng.randrange(1, 3), rng.randrange(1, 3), 2)
            meaning = some_meaning(rng, machine, 4)
            if longest_list(meaning) <= 5:
                turns += 1
                self.check(machine, meaning, [some_state(rng, machine)], plain_fewest)
        self.assertGreater(turns, 100)

    def test_with_just_enough_hidden_places(self):
        rng = random.Random(27)
        for step in range(500):
            meaning = some_meaning(rng, MACHINE, 5)
            if longest_list(meaning) <= 10 and plain_needs(meaning) <= 12:
                machine = with_hidden(plain_needs(meaning), MACHINE)
                self.check(machine, meaning, [some_state(rng, machine) for k in range(4)])

    def test_done_again_when_it_no_longer_traps(self):
        rng = random.Random(28)
        small = (4, ("a", "b", "c"), 12, 2, 2, 3)
        again = 0
        for step in range(600):
            meaning = some_meaning(rng, small, 5)
            if longest_list(meaning) > 10 or plain_needs(meaning) > 12:
                continue
            program, state = turned(small, meaning), some_state(rng, small)
            left = state_at_trap(small, program, state)
            if left is None:
                continue
            again += 1
            self.assertEqual((left[0], left[2]), (state[0], state[2]), meaning)
            longer = small[:5] + (16,)
            mended = (left[0], left[1], left[2] + (0,) * 13)
            told = run(longer, program, mended)
            self.assertEqual((told[0], told[2]), meant(longer, meaning, (state[0], state[1], mended[2])), meaning)
        self.assertGreater(again, 100)

    def test_greatest_programs_have_room(self):
        deep = "a = 1 ; b = 2 ; c = 3 ; d = 4 ; e = 5"
        for test in ("6", "(1 add 2)", "((1 add 2) add (3 add 4))", "((1 add 2) add ((3 add 4) add (5 add a)))"):
            deep = f"if {test} then {{ {deep} }} else {{ {deep} }}"
        machine = (4, tuple("abcdef"), 12, 1, 1, 10)
        rng = random.Random(29)
        self.check(machine, read(deep), [some_state(rng, machine) for k in range(20)])

    def test_asked_again_tells_the_same(self):
        meaning = read("if (a less b) then { a = [0] } else { b = c }")
        self.assertEqual(turned(NAMES, meaning), turned(machine=NAMES, meaning=meaning))


def state_at_trap(machine, program, state):
    """The state ahead of the row that traps; None where none does."""
    at = 0
    while True:
        orders, onward = program[at]
        told = row_done(machine, state, orders)
        if told[0] == "trap":
            return state
        if onward[0] == "end":
            return None
        state = told
        if onward[0] == "go":
            at = onward[1]
        else:
            at = onward[2] if word_at(machine, state, onward[1]) else onward[3]


if __name__ == "__main__":
    unittest.main()
