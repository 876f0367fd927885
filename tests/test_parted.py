"""[20]: the words that part rows of a store."""

import itertools
import random
import unittest

from steploft.errors import NoRow
from steploft.stores import parted, store_of
from things import A, B, H0, some_program, some_row, some_store

END = ("end",)
NOP = ((), END)
PUT = tuple((("put", A, n),) for n in range(16))
SMALL = (1, ("a",), 1, 1, 1, 0)


def unlike(one, other):
    (orders, onward), (others, beyond) = one, other
    return orders != others or onward[0] != beyond[0] or (onward[0] == "test" and onward[1] != beyond[1])


def is_parted_by(rows, one, other, word):
    """[20] by its words: whether gone by the word, and by gos, one comes to unlike rows."""
    while True:
        if unlike(rows[one], rows[other]):
            return True
        onward, beyond = rows[one][1], rows[other][1]
        if onward[0] == "go":
            one, other = onward[1], beyond[1]
        elif onward[0] == "end" or not word:
            return False
        else:
            at = 2 if word[0] else 3
            one, other, word = onward[at], beyond[at], word[1:]


def plain_parted(rows, one, other, most):
    for many in range(most + 1):
        for word in itertools.product((False, True), repeat=many):
            if is_parted_by(rows, one, other, word):
                return word
    return None


def store(*rows):
    return rows, (("x", 0),)


def test(k, other, place=A, orders=()):
    return (orders, ("test", place, k, other))


def go(k, orders=()):
    return (orders, ("go", k))


def end(n):
    return (PUT[n], END)


class Words(unittest.TestCase):
    def told(self, laid, one, other, word):
        self.assertEqual(parted(laid, one, other), word)
        self.assertEqual(parted(laid, other, one), word)
        self.assertEqual(plain_parted(laid[0], one, other, 4), word)
        if word is not None:
            self.assertIs(type(word), tuple)
            self.assertTrue(all(type(truth) is bool for truth in word))

    def test_at_once(self):
        ends = (NOP, NOP)
        laid = store(*ends, end(1), go(0), go(0, PUT[1]), test(0, 1), test(0, 1, B), test(0, 1, H0), test(1, 0, A))
        self.told(laid, 0, 2, ())
        self.told(laid, 0, 3, ())
        self.told(laid, 3, 4, ())
        self.told(laid, 3, 5, ())
        self.told(laid, 0, 5, ())
        self.told(laid, 5, 6, ())
        self.told(laid, 6, 7, ())
        self.told(laid, 5, 8, None)

    def test_by_one_truth(self):
        laid = store(end(0), end(1), test(0, 0), test(0, 1), test(1, 0), test(1, 1))
        self.told(laid, 2, 3, (False,))
        self.told(laid, 2, 4, (True,))
        self.told(laid, 2, 5, (False,))
        self.told(laid, 3, 4, (False,))
        self.told(laid, 3, 5, (True,))
        self.told(laid, 4, 5, (False,))

    def test_go_is_passed_without_a_truth(self):
        laid = store(end(0), end(1), go(0), go(1), go(2), go(3), test(4, 0), test(5, 0))
        self.told(laid, 2, 3, ())
        self.told(laid, 4, 5, ())
        self.told(laid, 6, 7, (True,))
        # A go more is another word of next on the way.
        self.told(laid, 2, 4, ())

    def test_the_shortest_even_if_it_is_not_the_first(self):
        laid = store(end(0), end(1), test(0, 0), test(0, 1), test(0, 2), test(1, 3))
        self.told(laid, 4, 5, (True,))
        laid = store(end(0), end(1), test(0, 0), test(0, 1), test(2, 2), test(2, 3), test(3, 2))
        self.told(laid, 4, 5, (False, False))
        self.told(laid, 4, 6, (True, False))

    def test_the_first_of_the_shortest(self):
        laid = store(end(0), end(1), test(0, 0), test(1, 1), test(1, 0), test(0, 1), test(2, 2), test(3, 3),
                     test(4, 2), test(2, 4), test(5, 5))
        self.told(laid, 6, 7, (False, False))
        self.told(laid, 6, 8, (True, True))
        self.told(laid, 6, 9, (False, True))
        self.told(laid, 6, 10, (False, False))
        self.told(laid, 8, 9, (False, True))
        self.told(laid, 9, 10, (False, False))

    def test_the_first_where_a_go_leads_to_what_a_later_word_leads_to(self):
        # By False and a go, and by True, one comes to the same two rows: the word with False is the first.
        laid = store(end(0), end(1), test(0, 0), test(0, 1), go(2), go(3), test(2, 4), test(3, 5))
        self.told(laid, 6, 7, (False, False))

    def test_none(self):
        laid = store(NOP, NOP, go(0), go(1), test(2, 3), test(3, 2), test(0, 0), test(0, 1))
        for number in range(len(laid[0])):
            self.told(laid, number, number, None)
        self.told(laid, 0, 1, None)
        self.told(laid, 2, 3, None)
        self.told(laid, 4, 5, None)
        self.told(laid, 6, 7, None)
        self.told(laid, 4, 6, (False,))

    def test_no_row(self):
        laid = store(NOP, end(1), go(0))
        for number in (-1, -2, -3, -4, 3, 4, 400, 999999999, -999999999):
            for pair in ((number, 0), (0, number), (number, number), (2, number), (number, 2)):
                with self.assertRaises(NoRow) as caught:
                    parted(laid, *pair)
                self.assertIs(type(caught.exception), NoRow)
        self.assertEqual(parted(laid, 2, 1), ())


class Long(unittest.TestCase):
    def test_chains(self):
        rows = tuple(go(k + 1) for k in range(199)) + (end(0),)
        rows += tuple(go(k + 1) for k in range(200, 399)) + (end(1),)
        self.assertEqual(parted(store(*rows), 0, 200), ())
        rows = tuple(test(k + 1, 199) for k in range(199)) + (end(0),)
        rows += tuple(test(k + 1, 199) for k in range(200, 399)) + (end(1),)
        self.assertEqual(parted(store(*rows), 0, 200), (True,) * 199)
        self.assertEqual(parted(store(*rows), 0, 201), (True,) * 198)

    def test_ways_that_meet_again(self):
        # Two to the hundred words lead through each half.
        rows = tuple(test(k + 1, k + 2) for k in range(198)) + (end(0), end(0))
        rows += tuple(test(k + 1, k + 2) for k in range(200, 398)) + (end(0), end(1))
        self.assertEqual(parted(store(*rows), 0, 200), (False,) * 98 + (True, False))
        self.assertIsNone(parted(store(*rows[:398], end(0), end(0)), 0, 200))

    def test_many_pairs(self):
        rng = random.Random(20)
        rows = tuple(test(*rng.choices(range(k + 1, min(k + 9, 400)), k=2)) for k in range(399)) + (NOP,)
        told = [parted(store(*rows), one, one + 1) for one in range(0, 390, 13)]
        self.assertTrue(all(word is not None for word in told))
        same = tuple(test(min(k + rng.randrange(1, 9), 399), 399) for k in range(399)) + (NOP,)
        self.assertIsNotNone(parted(store(*same), 0, 1))


class ByChance(unittest.TestCase):
    def test_as_told_by_the_words(self):
        rng = random.Random(20)
        for turn in range(300):
            choices = [some_row(rng, SMALL, 1) for k in range(rng.randrange(1, 3))]
            rows, starts = some_store(rng, SMALL, rng.randrange(1, 9), choices)
            for one, other in itertools.product(range(len(rows)), repeat=2):
                word = plain_parted(rows, one, other, len(rows))
                self.assertEqual(parted((rows, starts), one, other), word)

    def test_a_told_store_parts_any_two(self):
        rng = random.Random(21)
        for turn in range(150):
            choices = [some_row(rng, SMALL, 1) for k in range(rng.randrange(1, 3))]
            programs = {name: some_program(rng, SMALL, rng.randrange(1, 15), choices) for name in ("a", "b", "c")}
            rows, starts = store_of(programs)
            for one, other in itertools.product(range(len(rows)), repeat=2):
                word = parted((rows, starts), one, other)
                self.assertEqual(word is None, one == other)
                self.assertTrue(one == other or is_parted_by(rows, one, other, word))


if __name__ == "__main__":
    unittest.main()
