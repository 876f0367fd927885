"""[22] to [24]: lofts, how they go, their bells and their book, traps, mending and leaving out."""

import random
import unittest

from steploft import loft
from steploft.errors import LoftError, NoCells, NoLoft, NoName, NotStill
from steploft.loft import Loft
from steploft.machines import row_done, word_at
from steploft.stores import is_store, read_store
from things import A, B, H0, MACHINE, Plain, anything, nested, some_state, some_store

# Three bits: at most eight cells, of which there are two.
SMALL = (3, ("a", "b"), 1, 1, 1, 2)
TEXT = """0 put h0 1 ; go 1
1 alu add a a h0 ; go 2
2 nop ; end
3 nop ; end
4 put h0 5 ; go 5
5 load h0 h0 ; go 6
6 move a h0 ; end
7 load b a ; end
8 nop ; test a 9 10
9 put b 1 ; end
10 put b 2 ; end
11 put b 6 ; go 12
12 load h0 b ; end
start deep 4
start load 7
start none 3
start plus 0
start test 8
start unsafe 11
"""
STORE = read_store(SMALL, TEXT)
ZERO = ((0, 0), (0,), (0, 0))


def made(state=None, machine=SMALL, store=STORE):
    return Loft(machine, store, state=state)


def trapped(*names):
    """A loft that stands still with deep in hand, and these names behind it."""
    told = made(((3, 4), (0,), (6, 7)))
    for name in ("deep", *names):
        told.do(name)
    assert told.go() == 1
    return told


def all_told(told):
    return (told.state(), told.rows_done(), told.bells(), told.waiting(), told.is_still(), told.book(), told.is_going())


class Made(unittest.TestCase):
    def refused(self, machine, store, state=None):
        with self.assertRaises(LoftError) as caught:
            Loft(machine, store, state=state)
        self.assertIs(type(caught.exception), NoLoft)

    def test_without_a_state(self):
        for told in (Loft(SMALL, STORE), Loft(SMALL, STORE, state=None), Loft(store=STORE, machine=SMALL)):
            self.assertEqual(all_told(told), (ZERO, 0, 0, [], False, [], False))

    def test_with_a_state(self):
        state = ((1, 2), (3,), (4, 5))
        told = Loft(SMALL, STORE, state=state)
        self.assertEqual(all_told(told), (state, 0, 0, [], False, [], False))
        self.assertEqual(told.state(), state)

    def test_the_state_is_handed_in_by_name_alone(self):
        with self.assertRaises(TypeError):
            Loft(SMALL, STORE, ZERO)

    def test_a_machine_without_cells_or_hidden_ones(self):
        machine = (1, ("a",), 0, 1, 1, 0)
        told = Loft(machine, ((((("put", A, 1),), ("end",)),), (("x", 0),)))
        self.assertEqual(told.state(), ((0,), (), ()))
        told.do("x")
        self.assertEqual(told.go(), 1)
        self.assertEqual(told.state(), ((1,), (), ()))

    def test_no_machine(self):
        for thing in anything() + [STORE, ZERO, SMALL[:5], SMALL + (0,), list(SMALL), (0,) + SMALL[1:],
                                   SMALL[:5] + (9,), SMALL[:1] + (("a", "a"),) + SMALL[2:], TEXT]:
            self.refused(thing, STORE)
            self.refused(thing, STORE, ZERO)
            self.refused(thing, thing, thing)

    def test_no_store(self):
        rows, starts = STORE
        for thing in anything() + [SMALL, ZERO, rows, starts, [rows, starts], (starts, rows), (rows,), (rows, ()),
                                   (rows, starts, ()), ((), starts), (list(rows), starts), (rows, list(starts)),
                                   (rows, dict(starts)), TEXT, STORE + ((),), nested(99), (rows, nested(90))]:
            self.refused(SMALL, thing)
            self.refused(SMALL, thing, ZERO)

    def test_rows_for_another_machine(self):
        self.refused((3, ("a",), 1, 1, 1, 2), STORE)
        self.refused((3, ("a", "b"), 0, 1, 1, 2), STORE)
        self.refused((2, ("a", "b"), 1, 1, 1, 2), STORE)
        self.refused((3, ("b", "c"), 1, 1, 1, 2), STORE)
        two = ((((("put", A, 1), ("put", B, 1)), ("end",)),), (("x", 0),))
        self.refused(SMALL, two)
        Loft(MACHINE, two)

    def test_rings(self):
        for rows in ((((), ("go", 0)),), (((), ("go", 1)), ((), ("go", 0))), (((), ("end",)), ((), ("go", 1))),
                     (((), ("end",)), ((), ("test", A, 0, 2)), ((), ("go", 1)))):
            self.refused(SMALL, (rows, (("x", 0),)))

    def test_starts(self):
        rows = STORE[0]
        for starts in ((), (("b", 0), ("a", 0)), (("a", 0), ("a", 0)), (("a", 13),), (("a", -1),), (("A", 0),),
                       (("a", True),), (("a", 0), ("b", 13)), (("a", 0, 0),), ("a", 0), (["a", 0],), None):
            self.refused(SMALL, (rows, starts))

    def test_how_many_rows(self):
        many = (((), ("end",)),) * 400
        Loft(SMALL, (many, (("x", 399),)))
        self.refused(SMALL, (many + many[:1], (("x", 0),)))

    def test_no_state(self):
        for thing in anything()[1:] + [SMALL, STORE, ZERO[:2], ZERO + ((),), list(ZERO), ((0,), (0,), (0, 0)),
                                       ((0, 0), (), (0, 0)), ((0, 0), (0,), (0,)), ((0, 0), (0,), (0, 0, 0)),
                                       ((0, 8), (0,), (0, 0)), ((0, -1), (0,), (0, 0)), ((0, 0), (True,), (0, 0)),
                                       ((0, 0), (0,), [0, 0]), ((0, 0), (0,), (0, None)), ((0, 0.0), (0,), (0, 0)),
                                       ("trap", 0), Plain(), False]:
            self.refused(SMALL, STORE, thing)


class Goes(unittest.TestCase):
    def test_do_waits(self):
        told = made()
        self.assertIsNone(told.do("plus"))
        self.assertIsNone(told.do(name="none"))
        self.assertEqual(all_told(told), (ZERO, 0, 0, ["plus", "none"], False, [], False))

    def test_no_name(self):
        told = made()
        told.do("plus")
        told.go(rows=1)
        told.ring(4)
        before = all_told(told)
        for name in ("", "plu", "pluss", "PLUS", "a", "start", "x" * 20, " plus", "plus ", "0"):
            with self.assertRaises(NoName) as caught:
                told.do(name)
            self.assertIs(type(caught.exception), NoName)
            self.assertEqual(caught.exception.name, name)
            self.assertEqual(all_told(told), before)

    def test_rows_left_out_are_a_hundred(self):
        self.assertEqual(loft.ROWS, 100)
        told = made()
        for k in range(70):
            told.do("plus")
        self.assertEqual((told.go(), told.rows_done()), (100, 100))
        self.assertEqual((told.waiting(), told.book()), (["plus"] * 37, [("done", "plus")] * 33))
        self.assertEqual((told.go(rows=100), told.rows_done()), (100, 200))
        self.assertEqual((told.go(), told.rows_done()), (10, 210))
        self.assertEqual((told.go(), told.rows_done()), (0, 210))
        self.assertEqual(told.state(), ((70 % 8, 0), (1,), (0, 0)))

    def test_rows_are_handed_in_by_name_alone(self):
        with self.assertRaises(TypeError):
            made().go(1)

    def test_none_and_below(self):
        told = made()
        told.do("plus")
        before = all_told(told)
        for rows in (0, -1, -100, -999999999):
            self.assertEqual(told.go(rows=rows), 0)
            self.assertEqual(all_told(told), before)

    def test_more_than_there_are(self):
        told = made()
        self.assertEqual(told.go(rows=999999999), 0)
        told.do("plus")
        told.do("none")
        self.assertEqual(told.go(rows=999999999), 4)
        self.assertEqual(told.waiting(), [])
        self.assertEqual(told.book(), [("done", "plus"), ("done", "none")])

    def test_row_by_row(self):
        told = made()
        told.do("plus")
        told.do("plus")
        seen = []
        for turn in range(7):
            seen.append((told.go(rows=1), told.state()[0][0], told.state()[1][0], len(told.waiting()), len(told.book())))
        self.assertEqual(seen, [(1, 0, 1, 2, 0), (1, 1, 1, 2, 0), (1, 1, 1, 1, 1),
                                (1, 1, 1, 1, 1), (1, 2, 1, 1, 1), (1, 2, 1, 0, 2), (0, 2, 1, 0, 2)])

    def test_just_to_the_end_of_one(self):
        told = made()
        told.do("plus")
        told.do("none")
        self.assertEqual(told.go(rows=3), 3)
        self.assertEqual((told.waiting(), told.book()), (["none"], [("done", "plus")]))
        self.assertEqual(told.go(rows=3), 1)

    def test_a_test_reads_what_stands_behind_its_row(self):
        for word, told_word in ((0, 2), (1, 1), (7, 1)):
            told = made(((word, 0), (0,), (0, 0)))
            told.do("test")
            self.assertEqual(told.go(), 2)
            self.assertEqual(told.state()[0], (word, told_word))
        rows = (((("put", H0, 3),), ("test", H0, 1, 2)), ((("put", A, 1),), ("end",)), ((("put", A, 2),), ("end",)))
        told = Loft(SMALL, (rows, (("x", 0),)))
        told.do("x")
        told.go()
        self.assertEqual(told.state()[0], (1, 0))

    def test_done_while_another_is_in_hand(self):
        told = made()
        told.do("plus")
        told.go(rows=1)
        told.do("none")
        self.assertEqual(told.waiting(), ["plus", "none"])
        told.go()
        self.assertEqual(told.book(), [("done", "plus"), ("done", "none")])


class Bells(unittest.TestCase):
    def test_none_in_hand(self):
        told = made(((5, 6), (0,), (0, 0)))
        self.assertIsNone(told.ring(3))
        self.assertIsNone(told.ring(number=3))
        told.ring(-7)
        self.assertEqual(told.bells(), 0)
        self.assertEqual(told.book(), [("bell", 3, (5, 6)), ("bell", 3, (5, 6)), ("bell", -7, (5, 6))])

    def test_what_only_waits_is_not_in_hand(self):
        told = made()
        told.do("plus")
        told.ring(1)
        told.go(rows=0)
        told.ring(2)
        self.assertEqual((told.bells(), told.book()), (0, [("bell", 1, (0, 0)), ("bell", 2, (0, 0))]))

    def test_while_one_is_in_hand(self):
        told = made()
        told.do("plus")
        told.do("plus")
        told.go(rows=1)
        told.ring(9)
        told.ring(1)
        self.assertEqual((told.bells(), told.book()), (2, []))
        told.go(rows=1)
        told.ring(5)
        self.assertEqual((told.bells(), told.book(), told.state()[0]), (3, [], (1, 0)))
        told.go(rows=1)
        heard = [("done", "plus"), ("bell", 9, (1, 0)), ("bell", 1, (1, 0)), ("bell", 5, (1, 0))]
        self.assertEqual((told.bells(), told.book()), (0, heard))
        told.go()
        self.assertEqual(told.book(), heard + [("done", "plus")])

    def test_between_two(self):
        told = made()
        told.do("plus")
        told.do("plus")
        told.go(rows=3)
        told.ring(4)
        self.assertEqual((told.bells(), told.book()), (0, [("done", "plus"), ("bell", 4, (1, 0))]))
        self.assertEqual(told.waiting(), ["plus"])

    def test_heard_between_two_within_one_going(self):
        told = made()
        told.do("plus")
        told.do("plus")
        told.go(rows=1)
        told.ring(4)
        self.assertEqual(told.go(), 5)
        self.assertEqual(told.book(), [("done", "plus"), ("bell", 4, (1, 0)), ("done", "plus")])

    def test_each_once(self):
        told = made()
        for turn in range(4):
            told.do("plus")
        for turn in range(12):
            told.ring(turn)
            told.go(rows=1)
        heard = [entry[1] for entry in told.book() if entry[0] == "bell"]
        self.assertEqual(heard, list(range(12)))


class Traps(unittest.TestCase):
    def test_stands_still(self):
        told = trapped("plus", "none")
        self.assertEqual(told.book(), [("trap", "deep", 5)])
        self.assertIs(told.is_still(), True)
        self.assertEqual(told.waiting(), ["deep", "plus", "none"])
        self.assertEqual(told.state(), ((3, 4), (5,), (6, 7)))
        self.assertEqual(told.rows_done(), 1)

    def test_a_trap_in_the_first_row(self):
        told = made(((2, 0), (0,), (1, 1)))
        told.do("load")
        self.assertEqual((told.go(), told.rows_done(), told.is_still()), (0, 0, True))
        self.assertEqual((told.book(), told.waiting()), ([("trap", "load", 2)], ["load"]))
        told.ring(1)
        self.assertEqual(told.bells(), 1)

    def test_going_does_nothing(self):
        told = trapped("plus")
        before = all_told(told)
        for rows in (0, 1, 100, -1):
            self.assertEqual(told.go(rows=rows), 0)
        self.assertEqual(told.go(), 0)
        self.assertEqual(all_told(told), before)

    def test_more_may_be_told_to_it(self):
        told = trapped()
        told.do("none")
        told.ring(1)
        told.ring(2)
        self.assertEqual((told.waiting(), told.bells()), (["deep", "none"], 2))
        with self.assertRaises(NoName):
            told.do("nono")
        told.go()
        self.assertEqual(told.book(), [("trap", "deep", 5)])

    def test_bells_that_waited_ahead_of_the_trap(self):
        told = made()
        told.do("deep")
        told.go(rows=1)
        told.ring(8)
        self.assertEqual(told.go(), 0)
        self.assertEqual((told.bells(), told.book()), (1, [("trap", "deep", 5)]))

    def test_mend_by_just_enough(self):
        told = trapped("none")
        told.ring(1)
        self.assertIsNone(told.mend(4))
        heard = [("trap", "deep", 5), ("bell", 1, (3, 4))]
        self.assertEqual(all_told(told), (((3, 4), (5,), (6, 7, 0, 0, 0, 0)), 1, 0, ["deep", "none"], False, heard, False))
        told.ring(2)
        heard.append(("bell", 2, (3, 4)))
        self.assertEqual(told.book(), heard)
        self.assertEqual(told.go(), 4)
        self.assertEqual(told.book(), heard + [("done", "deep"), ("done", "none")])
        self.assertEqual(told.state(), ((0, 4), (0,), (6, 7, 0, 0, 0, 0)))
        self.assertEqual(told.rows_done(), 5)

    def test_mend_by_too_few(self):
        told = trapped()
        told.mend(cells=3)
        self.assertIs(told.is_still(), False)
        self.assertEqual(told.go(), 1)
        self.assertIs(told.is_still(), True)
        self.assertEqual((told.book(), told.rows_done()), ([("trap", "deep", 5)] * 2, 2))
        told.mend(1)
        self.assertEqual((told.go(), told.rows_done()), (3, 5))
        self.assertEqual(told.book(), [("trap", "deep", 5)] * 2 + [("done", "deep")])

    def test_mend_to_the_most(self):
        told = trapped()
        told.mend(6)
        self.assertEqual(told.state()[2], (6, 7, 0, 0, 0, 0, 0, 0))
        self.assertEqual(told.go(), 3)

    def test_no_cells(self):
        told = trapped("plus")
        told.ring(1)
        before = all_told(told)
        for cells in (7, 8, 100, 999999999, 0, -1, -2, -999999999):
            with self.assertRaises(NoCells) as caught:
                told.mend(cells)
            self.assertIs(type(caught.exception), NoCells)
            self.assertEqual(all_told(told), before)
        told.mend(1)
        told.go()
        for cells in (6, 0):
            with self.assertRaises(NoCells):
                told.mend(cells)
        told.mend(5)
        self.assertEqual(len(told.state()[2]), 8)

    def test_leave(self):
        told = trapped("plus")
        told.ring(1)
        self.assertIsNone(told.leave())
        heard = [("trap", "deep", 5), ("left", "deep"), ("bell", 1, (3, 4))]
        self.assertEqual(all_told(told), (((3, 4), (5,), (6, 7)), 1, 0, ["plus"], False, heard, False))
        told.ring(2)
        self.assertEqual(told.go(), 3)
        self.assertEqual(told.book(), heard + [("bell", 2, (3, 4)), ("done", "plus")])
        self.assertEqual(told.state(), ((4, 4), (1,), (6, 7)))

    def test_the_one_left_out_is_the_one_in_hand(self):
        told = trapped("none", "deep", "none")
        told.leave()
        self.assertEqual(told.waiting(), ["none", "deep", "none"])
        self.assertEqual(told.go(), 2)
        self.assertEqual(told.waiting(), ["deep", "none"])
        told.leave()
        self.assertEqual(told.go(), 1)
        self.assertEqual(told.book(), [("trap", "deep", 5), ("left", "deep"), ("done", "none"), ("trap", "deep", 5),
                                       ("left", "deep"), ("done", "none")])

    def test_not_still(self):
        ready = made()
        waits = made()
        waits.do("plus")
        in_hand = made()
        in_hand.do("plus")
        in_hand.go(rows=1)
        in_hand.ring(1)
        mended, left = trapped("plus"), trapped("plus")
        mended.mend(1)
        left.leave()
        for told in (ready, waits, in_hand, mended, left):
            before = all_told(told)
            for cells in (1, 6, 7, 0, -1, 999999999):
                with self.assertRaises(NotStill) as caught:
                    told.mend(cells)
                self.assertIs(type(caught.exception), NotStill)
            with self.assertRaises(NotStill) as caught:
                told.leave()
            self.assertIs(type(caught.exception), NotStill)
            self.assertEqual(all_told(told), before)

    def test_what_an_unsafe_one_wrote_stays(self):
        told = made()
        told.do("unsafe")
        self.assertEqual(told.go(), 1)
        told.ring(3)
        told.leave()
        self.assertEqual(told.book(), [("trap", "unsafe", 6), ("left", "unsafe"), ("bell", 3, (0, 6))])

    def test_a_row_that_traps_writes_nothing(self):
        rows = (((("put", B, 7), ("load", A, A)), ("end",)),)
        told = Loft(SMALL, (rows, (("x", 0),)), state=((5, 1), (2,), (3, 4)))
        told.do("x")
        told.go()
        self.assertEqual(told.state(), ((5, 1), (2,), (3, 4)))
        told.mend(4)
        told.go()
        self.assertEqual(told.state(), ((0, 7), (2,), (3, 4, 0, 0, 0, 0)))


class NewLists(unittest.TestCase):
    def test_lists_are_the_askers_own(self):
        told = trapped("plus")
        for ask in (told.book, told.waiting):
            first = ask()
            self.assertIs(type(first), list)
            self.assertIsNot(ask(), first)
            kept = list(first)
            first.clear()
            self.assertEqual(ask(), kept)
        book, waiting = told.book(), told.waiting()
        told.leave()
        told.ring(1)
        told.go()
        self.assertEqual((book, waiting), ([("trap", "deep", 5)], ["deep", "plus"]))

    def test_two_lofts_share_nothing(self):
        one, other = made(), made()
        one.do("plus")
        one.go()
        one.ring(1)
        self.assertEqual(all_told(other), (ZERO, 0, 0, [], False, [], False))

    def test_kinds(self):
        told = trapped()
        for ask in (told.is_still, told.is_going):
            self.assertIs(type(ask()), bool)
        for ask in (told.rows_done, told.bells, told.go):
            self.assertIs(type(ask()), int)
        self.assertIs(type(told.state()), tuple)


class PlainLoft:
    """[22] to [24] by their words, told as one long tale: rows of instructions with marks between them."""

    def __init__(self, machine, store, state):
        self.machine, self.store, self.now = machine, store, state
        self.queue, self.rung, self.tale, self.many = [], [], [], 0
        self.spot, self.still = None, False

    def settle(self):
        while self.spot is None and self.rung:
            self.tale.append(("bell", self.rung.pop(0), self.now[0]))

    def one_row(self):
        if self.still or not self.queue:
            return 0
        if self.spot is None:
            self.spot = dict(self.store[1])[self.queue[0]]
        orders, onward = self.store[0][self.spot]
        state = row_done(self.machine, self.now, orders)
        if state[0] == "trap":
            self.still = True
            self.tale.append(("trap", self.queue[0], state[1]))
            return 0
        self.now, self.many = state, self.many + 1
        if onward[0] == "test":
            self.spot = onward[2] if word_at(self.machine, state, onward[1]) else onward[3]
        elif onward[0] == "go":
            self.spot = onward[1]
        else:
            self.spot = None
            self.tale.append(("done", self.queue.pop(0)))
            self.settle()
        return 1

    def told(self):
        return (self.now, self.many, len(self.rung), self.queue, self.still, self.tale, False)


class ByChance(unittest.TestCase):
    def one_deed(self, rng, told, plain):
        deed = rng.randrange(6)
        if deed == 0:
            name = rng.choice(plain.store[1])[0]
            told.do(name)
            plain.queue.append(name)
        elif deed == 1:
            rows = rng.choice((-1, 0, 1, 1, 2, 3, 5))
            self.assertEqual(told.go(rows=rows), sum(plain.one_row() for k in range(rows)))
        elif deed == 2:
            number = rng.randrange(5)
            told.ring(number)
            plain.rung.append(number)
            plain.settle()
        elif deed == 3:
            self.one_mend(told, plain, rng.choice((-1, 0, 1, 1, 2, 5)))
        elif deed == 4 and plain.still and rng.randrange(2):
            told.leave()
            plain.still, plain.spot = False, None
            plain.tale.append(("left", plain.queue.pop(0)))
            plain.settle()
        elif deed == 5 and not plain.still:
            with self.assertRaises(NotStill):
                told.leave()

    def one_mend(self, told, plain, cells):
        is_right = cells >= 1 and plain.machine[5] + cells <= 2 ** plain.machine[0]
        if not plain.still or not is_right:
            with self.assertRaises(NoCells if plain.still else NotStill):
                told.mend(cells)
            return
        told.mend(cells)
        plain.machine = plain.machine[:5] + (plain.machine[5] + cells,)
        plain.now = plain.now[:2] + (plain.now[2] + (0,) * cells,)
        plain.still, plain.spot = False, None
        plain.settle()

    def test_as_told_by_the_words(self):
        rng = random.Random(22)
        for turn in range(150):
            store = some_store(rng, SMALL, rng.randrange(1, 10))
            self.assertTrue(is_store(SMALL, store))
            state = some_state(rng, SMALL)
            told, plain = Loft(SMALL, store, state=state), PlainLoft(SMALL, store, state)
            for step in range(60):
                self.one_deed(rng, told, plain)
                self.assertEqual(all_told(told), plain.told())


if __name__ == "__main__":
    unittest.main()
