"""[1] and [4]: from the texts of meanings to a loft that runs their rows."""

import itertools
import random
import unittest

from steploft.errors import NoRoom, TooMany
from steploft.loft import Loft
from steploft.looks import unsafe_way
from steploft.meanings import meant, read_meaning, show_meaning
from steploft.packing import packed, paper_holds, paper_of
from steploft.programs import is_program, list_of_do, run, turned
from steploft.stores import parted, read_program, read_store, show_program, show_store, store_of
from steploft.texts import read_machine, show_machine
from things import some_meaning, some_state

NAMES = ("add", "b", "bell", "if", "load", "nop", "start", "swap")


def meanings_of(rng, machine, many):
    """A dict from names to meanings that can be turned into rows, by chance."""
    found = {}
    while len(found) < many:
        meaning = read_meaning(machine, show_meaning(some_meaning(rng, machine, rng.randrange(2, 6))))
        try:
            turned(machine, meaning)
        except (NoRoom, TooMany):
            continue
        found[NAMES[len(found)]] = meaning
    return found


def laid(machine, meanings):
    """The store of these meanings, gone through texts on its way."""
    programs = {}
    for name, meaning in meanings.items():
        programs[name] = read_program(machine, show_program(turned(machine, meaning)))
    return read_store(machine, show_store(store_of(programs)))


class Follower:
    """A loft, and what the meanings say of it."""

    def __init__(self, case, machine, meanings, state):
        self.case, self.machine, self.meanings = case, machine, meanings
        self.loft = Loft(machine, laid(machine, meanings), state=state)
        self.visible, self.memory = state[0], state[2]
        self.seen, self.rung, self.heard, self.asked, self.ended = 0, [], [], [], []

    def do(self, name):
        self.loft.do(name)
        self.asked.append(name)

    def ring(self, number):
        self.rung.append(number)
        self.loft.ring(number)
        self.look()

    def look(self):
        """Reads on in the book, and holds it against what the meanings say."""
        for entry in self.loft.book()[self.seen:]:
            self.seen += 1
            if entry[0] == "bell":
                self.heard.append(entry[1])
                self.case.assertEqual(entry[2], self.visible)
                continue
            state = (self.visible, (0,) * self.machine[2], self.memory)
            said = meant(self.machine, self.meanings[entry[1]], state)
            if entry[0] == "done":
                self.case.assertNotEqual(said, ("trap",))
                self.visible, self.memory = said
            else:
                self.case.assertEqual(said, ("trap",))
            if entry[0] != "trap":
                self.ended.append(entry[1])
        self.case.assertEqual(self.heard, self.rung[:len(self.heard)])
        self.case.assertEqual(self.loft.bells(), len(self.rung) - len(self.heard))
        self.case.assertEqual(self.asked, self.ended + self.loft.waiting())

    def is_as_said(self):
        state = self.loft.state()
        self.case.assertEqual((state[0], state[2]), (self.visible, self.memory))

    def go(self, rows):
        """Goes row by row, and looks behind each."""
        for k in range(rows):
            many = len(self.loft.book())
            done = self.loft.go(rows=1)
            ended = len(self.loft.book()) > many
            self.look()
            if ended or done == 0:
                self.is_as_said()

    def mend(self, cells):
        self.loft.mend(cells)
        self.machine = self.machine[:5] + (self.machine[5] + cells,)
        self.memory += (0,) * cells
        self.look()
        self.is_as_said()

    def leave(self):
        self.loft.leave()
        self.look()
        self.is_as_said()


class Whole(unittest.TestCase):
    def test_one_by_hand(self):
        machine = read_machine("bits 4 registers a b hidden 6 alus 2 moves 2 cells 4")
        texts = {"swap": "a = b ; b = a", "push": "a = (a sub 1) ; [(a sub 1)] = b", "take": "b = [a] ; a = (a add 1)",
                 "less": "if (a less b) then { a = b } else { nop }"}
        meanings = {name: read_meaning(machine, text) for name, text in texts.items()}
        told = Loft(machine, laid(machine, meanings), state=((6, 9), (15,) * 6, (0, 0, 0, 0)))
        told.do("push")
        told.do("swap")
        told.go(rows=1)
        told.ring(1)
        told.go()
        self.assertEqual(told.book(), [("trap", "push", 5)])
        self.assertEqual((told.state()[0], told.state()[2]), ((6, 9), (0, 0, 0, 0)))
        told.mend(1)
        told.go()
        self.assertEqual(told.book()[1:], [("bell", 1, (6, 9)), ("trap", "push", 5)])
        told.mend(1)
        told.go()
        self.assertEqual(told.book()[3:], [("done", "push"), ("done", "swap")])
        self.assertEqual((told.state()[0], told.state()[2]), ((9, 5), (0, 0, 0, 0, 0, 9)))
        told.do("take")
        told.do("less")
        told.go()
        told.ring(2)
        told.leave()
        told.go()
        self.assertEqual(told.book()[5:], [("trap", "take", 9), ("left", "take"), ("bell", 2, (9, 5)), ("done", "less")])
        self.assertEqual(told.state()[0], (9, 5))

    def test_by_chance(self):
        rng = random.Random(4)
        seen = {"done": 0, "trap": 0, "left": 0, "bell": 0}
        for turn in range(120):
            cells = rng.randrange(5)
            machine = (3, ("a", "b"), 12, rng.randrange(1, 4), rng.randrange(1, 4), cells)
            machine = read_machine(show_machine(machine))
            meanings = meanings_of(rng, machine, rng.randrange(1, 7))
            told = Follower(self, machine, meanings, some_state(rng, machine))
            for step in range(60):
                self.one_deed(rng, told)
            for entry in told.loft.book():
                seen[entry[0]] += 1
        self.assertTrue(all(many > 50 for many in seen.values()), seen)

    def one_deed(self, rng, told):
        deed = rng.randrange(4)
        if told.loft.is_still() and deed == 0:
            room = 2 ** told.machine[0] - told.machine[5]
            told.mend(rng.randrange(1, room + 1))
        elif told.loft.is_still() and deed == 1:
            told.leave()
        elif deed == 2:
            told.ring(rng.randrange(100))
        elif deed == 3:
            told.do(rng.choice(list(told.meanings)))
        else:
            told.go(rng.randrange(6))

    def test_the_store_runs_as_the_programs_and_has_the_least_rows(self):
        rng = random.Random(5)
        machine = (2, ("a", "b"), 12, 2, 2, 3)
        for turn in range(25):
            meanings = meanings_of(rng, machine, 4)
            programs = {name: turned(machine, meaning) for name, meaning in meanings.items()}
            store = laid(machine, meanings)
            for one, other in itertools.combinations(range(len(store[0])), 2):
                self.assertIsNotNone(parted(store, one, other))
            for name, program in programs.items():
                self.assertTrue(is_program(machine, program))
                self.assertIsNone(unsafe_way(machine, program))
                state = some_state(rng, machine)
                told = Loft(machine, store, state=state)
                told.do(name)
                told.go(rows=400)
                last = run(machine, program, state)
                if last[0] == "trap":
                    self.assertEqual(told.book(), [("trap", name, last[1])])
                else:
                    self.assertEqual((told.book(), told.state()), ([("done", name)], last))

    def test_no_piece_has_more_rows_than_its_paper_shows(self):
        rng = random.Random(6)
        machine = (2, ("a", "b"), 12, 2, 2, 3)
        many = 0
        for meaning in meanings_of(rng, machine, 8).values():
            if meaning[0] == "do":
                orders = list_of_do(meaning)
                paper = paper_of(machine, orders)
                self.assertTrue(paper_holds(machine, orders, paper))
                self.assertEqual(len(packed(machine, orders)), paper[0])
                self.assertEqual(len(turned(machine, meaning)), max(1, paper[0]))
                many += 1
        self.assertGreater(many, 2)


if __name__ == "__main__":
    unittest.main()
