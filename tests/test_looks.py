"""[25] and [26]: where a program does otherwise than a meaning, and where it is not safe to begin anew."""

import itertools
import random
import unittest

from steploft.errors import NoRoom, TooMany
from steploft.looks import differs, unsafe_way
from steploft.meanings import meant, read_meaning
from steploft.programs import is_program, run, turned
from steploft.stores import read_program
from things import A, H0, some_meaning, some_program, some_state

SMALL = (2, ("a", "b"), 2, 1, 2, 3)
END = ("end",)


def program(*rows, machine=SMALL):
    text = "".join(f"{at} {row}\n" for at, row in enumerate(rows))
    return read_program(machine, text)


def states_of(machine):
    """All states with hidden words 0, by the order of tuples."""
    words = range(2 ** machine[0])
    for visible in itertools.product(words, repeat=len(machine[1])):
        for memory in itertools.product(words, repeat=machine[5]):
            yield visible, (0,) * machine[2], memory


def plain_differs(machine, meaning, rows):
    """[25] by its words."""
    for state in states_of(machine):
        last, said = run(machine, rows, state), meant(machine, meaning, state)
        if (last[0] == "trap") != (said == ("trap",)):
            return state
        if last[0] != "trap" and (last[0], last[2]) != said:
            return state
    return None


class Differs(unittest.TestCase):
    def told(self, state, text, *rows, machine=SMALL):
        meaning, laid = read_meaning(machine, text), program(*rows, machine=machine)
        self.assertEqual(differs(machine, meaning, laid), state)
        self.assertEqual(plain_differs(machine, meaning, laid), state)

    def test_none(self):
        self.told(None, "nop", "nop ; end")
        self.told(None, "a = b", "move a b ; end")
        self.told(None, "a = b ; b = a", "move a b / move b a ; end")
        self.told(None, "a = (a add 0)", "nop ; end")
        self.told(None, "if a then { a = 1 } else { nop }", "nop ; test a 1 2", "put a 1 ; end", "nop ; end")

    def test_in_a_register(self):
        self.told(((0, 0), (0, 0), (0, 0, 0)), "a = 1", "nop ; end")
        self.told(((0, 1), (0, 0), (0, 0, 0)), "a = b", "put a 0 ; end")
        self.told(((1, 0), (0, 0), (0, 0, 0)), "nop", "put a 0 ; end")
        self.told(((3, 3), (0, 0), (0, 0, 0)), "if ((a and b) same 3) then { a = 0 } else { nop }", "nop ; end")
        self.told(((0, 2), (0, 0), (0, 0, 0)), "if (b less 2) then { nop } else { b = 2 ; a = 1 }", "nop ; end")

    def test_in_a_cell(self):
        self.told(((0, 0), (0, 0), (0, 0, 1)), "nop", "put h0 2 ; go 1", "store h0 a ; end")
        self.told(((0, 0), (0, 0), (0, 0, 0)), "[1] = 3", "nop ; end")
        self.told(((0, 0), (0, 0), (1, 0, 0)), "[0] = a", "put h0 0 ; test a 1 2", "store h0 a ; end", "nop ; end")
        self.told(((0, 0), (0, 0), (0, 1, 0)), "[0] = [1]", "store a a ; end")

    def test_a_trap_on_one_side(self):
        self.told(((3, 0), (0, 0), (0, 0, 0)), "nop", "load h0 a ; end")
        self.told(((0, 3), (0, 0), (0, 0, 0)), "nop", "load h0 b ; end")
        self.told(((0, 0), (0, 0), (0, 0, 0)), "a = [3]", "nop ; end")
        self.told(((3, 0), (0, 0), (0, 0, 0)), "[a] = [a]", "nop ; end")
        self.told(((3, 0), (0, 0), (0, 0, 0)), "if (a same 3) then { b = [3] } else { nop }", "nop ; end")
        self.told(((1, 0), (0, 0), (0, 0, 0)), "nop", "put h0 3 ; test a 1 2", "store h0 a ; end", "nop ; end")

    def test_a_trap_on_both_sides_is_alike_whatever_its_word(self):
        machine = (3, ("a",), 1, 1, 1, 2)
        self.told(None, "a = [5]", "put h0 6 ; go 1", "load a h0 ; end", machine=machine)
        self.told(None, "a = [5]", "put a 6 ; go 1", "load a a ; end", machine=machine)

    def test_hidden_words_are_0(self):
        self.told(None, "a = 0", "move a h0 ; end")
        self.told(((0, 0), (0, 0), (0, 0, 0)), "a = 1", "move a h0 ; end")
        self.assertEqual(differs((1, ("a",), 12, 1, 1, 0), ("do", (), ()), ((((("put", A, 0),)), END),)),
                         ((1,), (0,) * 12, ()))
        # What is left in hidden places is no difference.
        self.told(None, "nop", "put h0 3 ; end")

    def test_the_last_state(self):
        test = "((((a and b) and [0]) and [1]) same 3)"
        machine = (2, ("a", "b"), 12, 1, 1, 2)
        self.told(((3, 3), (0,) * 12, (3, 3)), "if " + test + " then { a = 0 } else { nop }", "nop ; end",
                  machine=machine)

    def test_bits(self):
        nothing, idle = ("do", (), ()), ((), END)
        for machine in ((1, tuple("abcdef"), 12, 1, 1, 2), (2, tuple("abcdef"), 0, 1, 1, 0), (2, ("a", "b"), 0, 1, 1, 4),
                        (3, ("a",), 3, 1, 1, 3), (4, ("a",), 0, 1, 1, 2), (4, ("a", "b", "c"), 0, 1, 1, 0),
                        (6, ("a", "b"), 0, 1, 1, 0), (6, ("a",), 0, 1, 1, 1), (8, ("a",), 12, 3, 3, 0)):
            self.assertIsNone(differs(machine, nothing, (idle,)))
        for machine in ((2, tuple("abcdef"), 0, 1, 1, 1), (2, ("a", "b", "c"), 0, 1, 1, 4), (3, ("a",), 0, 1, 1, 4),
                        (4, ("a",), 0, 1, 1, 3), (4, tuple("abcd"), 0, 1, 1, 0), (5, ("a", "b", "c"), 0, 1, 1, 0),
                        (7, ("a", "b"), 0, 1, 1, 0), (7, ("a",), 0, 1, 1, 1), (8, ("a", "b"), 0, 1, 1, 0),
                        (8, ("a",), 0, 1, 1, 1), (8, tuple("abcdef"), 12, 3, 3, 256)):
            with self.assertRaises(TooMany) as caught:
                differs(machine, nothing, (idle,))
            self.assertIs(type(caught.exception), TooMany)
            with self.assertRaises(TooMany):
                differs(machine, nothing, ((((("put", A, 1),)), END),))

    def test_twelve_bits_and_more(self):
        # Thirteen is no product of bits and words that a machine can have, so the next ones are tried, too.
        for bits, names, cells in itertools.product(range(1, 9), range(1, 7), range(0, 30)):
            if cells > 2 ** bits or not 11 <= bits * (names + cells) <= 16:
                continue
            machine = (bits, tuple("abcdef"[:names]), 0, 1, 1, cells)
            if bits * (names + cells) > 12:
                with self.assertRaises(TooMany):
                    differs(machine, ("do", (), ()), (((), END),))
            else:
                self.assertIsNone(differs(machine, ("do", (), ()), (((), END),)))

    def test_told_programs_differ_nowhere(self):
        rng = random.Random(25)
        machines = ((2, ("a", "b"), 12, 2, 1, 3), (1, ("a", "b", "c"), 12, 1, 2, 1), (3, ("a", "b"), 12, 3, 3, 1))
        many = 0
        for turn in range(60):
            machine = rng.choice(machines)
            meaning = some_meaning(rng, machine, 5)
            try:
                laid = turned(machine, meaning)
            except (TooMany, NoRoom):
                continue
            many += 1
            self.assertIsNone(differs(machine, meaning, laid))
        self.assertGreater(many, 30)

    def test_by_chance(self):
        rng = random.Random(26)
        machine = (1, ("a", "b"), 2, 1, 2, 1)
        told = []
        for turn in range(400):
            meaning, laid = some_meaning(rng, machine, 3), some_program(rng, machine, rng.randrange(1, 5))
            told.append(differs(machine, meaning, laid))
            self.assertEqual(told[-1], plain_differs(machine, meaning, laid))
        self.assertGreater(len(set(told)), 5)


def ways_of(rows):
    """All ways from row 0, to whatever row."""
    ways = [(0,)]
    for way in ways:
        onward = rows[way[-1]][1]
        for number in set(onward[2:] if onward[0] == "test" else onward[1:]):
            ways.append(way + (number,))
    return ways


def shows(rows, way):
    """Whether a way ends with a load or a store behind a row that writes a register or stores."""
    def has(at, kinds):
        return any(order[0] in kinds for order in rows[at][0])

    def writes(at):
        tos = [order[2] if order[0] == "alu" else order[1] for order in rows[at][0] if order[0] != "store"]
        return any(to[0] == "reg" for to in tos) or has(at, ("store",))

    return has(way[-1], ("load", "store")) and any(writes(at) for at in way[:-1])


class Unsafe(unittest.TestCase):
    def told(self, way, *rows):
        laid = program(*rows)
        self.assertEqual(unsafe_way(SMALL, laid), way)
        self.assertEqual(min([each for each in ways_of(laid) if shows(laid, each)], default=None), way)

    def test_safe(self):
        self.told(None, "nop ; end")
        self.told(None, "load h0 a ; go 1", "move a h0 ; end")
        self.told(None, "load h0 a ; go 1", "load h1 h0 ; go 2", "store h1 h0 ; go 3", "put a 1 ; end")
        self.told(None, "put h0 1 ; go 1", "alu add h1 a b ; go 2", "move h0 a ; go 3", "load h0 h1 ; end")
        self.told(None, "put a 1 ; go 1", "put b 1 ; go 2", "move h0 a ; end")

    def test_a_row_by_itself_shows_nothing(self):
        self.told(None, "load a b ; end")
        self.told(None, "put a 1 / load b a ; end")
        self.told(None, "put a 1 / store a b ; end")
        self.told(None, "load h0 a ; go 1", "move b h0 / put a 1 / store a b ; end")
        self.told(None, "load h0 a ; go 1", "alu add a a a / load b h0 ; go 2", "put a 1 ; end")

    def test_each_kind_of_write(self):
        for write in ("put a 1", "move b h0", "alu add a a b", "load a b", "store a b", "put h0 1 / store a b",
                      "put b 1 / put h0 1", "alu or h0 a b / move b a", "put a 1 / put h0 1"):
            self.told((0, 1), f"{write} ; go 1", "load h0 a ; end")
            self.told((0, 1), f"{write} ; go 1", "store h0 a ; end")
            self.told((0, 1, 2), f"{write} ; go 1", "put h1 1 ; go 2", "put a 1 / load h0 a ; end")
            self.told(None, f"{write} ; go 1", "put h1 1 ; end")
        for write in ("put h0 1", "move h0 a", "alu add h0 a b", "load h0 b", "nop", "alu or h0 a b / put h1 2"):
            self.told(None, f"{write} ; go 1", "load h0 a ; end")
            self.told(None, f"{write} ; go 1", "store h0 a ; end")

    def test_ends_with_the_first_row_that_shows_it(self):
        self.told((0, 1), "store a b ; go 1", "store a b ; go 2", "store a b ; end")
        self.told((0, 1), "load a b ; go 1", "load a b ; go 2", "load a b ; end")
        self.told((0, 1, 2), "put h0 1 ; go 1", "put a 1 ; go 2", "load h0 a ; go 3", "load h0 a ; end")

    def test_the_first_way(self):
        self.told((0, 1, 3), "put a 1 ; test a 2 1", "nop ; go 3", "nop ; go 3", "load h0 a ; end")
        self.told((0, 1, 3), "put a 1 ; test a 1 2", "nop ; go 3", "nop ; go 3", "load h0 a ; end")
        self.told((0, 2), "put a 1 ; test a 1 2", "nop ; go 3", "load h0 a ; end", "nop ; end")
        self.told((0, 1, 2), "nop ; test a 1 2", "put a 1 ; go 2", "load h0 a ; go 3", "store a b ; end")
        self.told((0, 1, 2, 3, 4), "put a 1 ; test a 1 4", "nop ; test a 2 4", "nop ; test a 4 3", "nop ; go 4",
                  "load h0 a ; end")
        self.told((0, 1, 3, 4), "nop ; test a 2 1", "put a 1 ; test b 4 3", "put a 2 ; go 3", "nop ; go 4", "store a b ; end")

    def test_a_row_come_to_with_and_without_a_write(self):
        self.told((0, 2, 3), "nop ; test a 1 2", "nop ; go 3", "put a 1 ; go 3", "load h0 a ; end")
        self.told((0, 1, 3), "nop ; test a 1 2", "put a 1 ; go 3", "nop ; go 3", "load h0 a ; end")
        self.told((0, 2, 3, 4), "nop ; test a 1 2", "nop ; go 3", "put a 1 ; go 3", "nop ; go 4", "load h0 a ; end")

    def test_a_write_that_leads_to_none(self):
        self.told(None, "nop ; test a 1 2", "put a 1 ; end", "load h0 a ; end")
        self.told(None, "nop ; test a 1 2", "put a 1 ; go 3", "load h0 a ; go 3", "put b 1 ; end")
        self.told(None, "nop ; go 2", "put a 1 ; go 2", "load h0 a ; end")
        self.told(None, "put a 1 ; end", "load h0 a ; end")

    def test_both_ways_of_a_test_to_the_same_row(self):
        self.told((0, 1), "put a 1 ; test a 1 1", "load h0 a ; end")

    def test_long_ones(self):
        write, load, idle = (("put", A, 1),), (("load", H0, A),), ()
        many = 300
        # Two to the hundred and more ways lead to the end.
        ladder = [(idle, ("test", A, k + 1, min(k + 2, many - 1))) for k in range(many - 1)] + [(load, END)]
        self.assertTrue(is_program(SMALL, tuple(ladder)))
        self.assertIsNone(unsafe_way(SMALL, tuple(ladder)))
        ladder[0] = (write, ladder[0][1])
        self.assertEqual(unsafe_way(SMALL, tuple(ladder)), tuple(range(many)))
        ladder[-1] = (idle, END)
        self.assertIsNone(unsafe_way(SMALL, tuple(ladder)))
        ladder[-1] = (load, END)
        ladder[0], ladder[-2] = (idle, ladder[0][1]), (write, ladder[-2][1])
        self.assertEqual(unsafe_way(SMALL, tuple(ladder)), tuple(range(many)))
        # The write is come to only by the last of all ways.
        last = [(idle, ("test", A, k + 2, k + 1)) for k in range(0, 296)] + [(idle, END)] * 4
        last[0] = (idle, ("test", A, 1, 298))
        last[298] = (write, ("go", 299))
        last[299] = (load, END)
        self.assertEqual(unsafe_way(SMALL, tuple(last)), (0, 298, 299))

    def test_told_programs_are_safe(self):
        rng = random.Random(26)
        machine = (4, ("a", "b", "c"), 12, 2, 2, 10)
        many = 0
        for turn in range(200):
            try:
                laid = turned(machine, some_meaning(rng, machine, 5))
            except (TooMany, NoRoom):
                continue
            many += len(laid) > 2
            self.assertIsNone(unsafe_way(machine, laid))
        self.assertGreater(many, 50)

    def test_by_chance(self):
        rng = random.Random(27)
        told = []
        for turn in range(1000):
            laid = some_program(rng, SMALL, rng.randrange(1, 10))
            told.append(unsafe_way(SMALL, laid))
            self.assertEqual(told[-1], min([way for way in ways_of(laid) if shows(laid, way)], default=None))
        self.assertGreater(len([way for way in told if way and len(way) > 3]), 20)

    def test_safe_ones_begin_anew(self):
        rng = random.Random(28)
        machine = (2, ("a", "b"), 2, 1, 2, 2)
        many = 0
        for turn in range(3000):
            laid = some_program(rng, machine, rng.randrange(1, 5))
            if unsafe_way(machine, laid) is not None:
                continue
            state = some_state(rng, machine)
            if run(machine, laid, state)[0] == "trap":
                many += 1
                self.assertEqual(visible_at_trap(machine, laid, state), (state[0], state[2]))
        self.assertGreater(many, 100)


def visible_at_trap(machine, laid, state):
    """The visible part that a run that traps leaves."""
    for many in range(len(laid) + 1):
        # Cut off behind so many rows, a run that does not trap yet shows what stands there.
        last = run(machine, laid[:many] + (((), END),) * (len(laid) - many), state)
        if last[0] == "trap":
            return seen
        seen = (last[0], last[2])


if __name__ == "__main__":
    unittest.main()
