"""[16]: papers of claims, and when they hold."""

import itertools
import random
import unittest

from steploft.errors import TooMany
from steploft.packing import packed, paper_holds, paper_of
from things import A, B, H0, H1, Plain, anything, has_room, must_be_behind, must_not_be_ahead, nested, nested_lists
from things import some_order

NARROW = (4, ("a", "b"), 12, 1, 1, 10)
WIDE = (4, ("a", "b"), 12, 2, 2, 10)
# Order 2 is behind both others; the puts need a row each.
THREE = [("put", H0, 1), ("put", H1, 2), ("alu", "add", A, H0, H1)]
GOOD = (3, (((0, 1, 2), 3), ((1, 2), 2), ((0, 2), 2), ((2,), 1)))


def puts(many):
    return [("put", ("hid", k), k) for k in range(many)]


def everything(orders):
    return tuple(range(len(orders)))


def subsets(some):
    return itertools.chain.from_iterable(itertools.combinations(some, many) for many in range(len(some) + 1))


def is_first(machine, orders, left, row):
    """Whether the numbers of row are a first row of left, by the words of [16]."""
    if not has_room(machine, [orders[k] for k in row], [0] * len(row)):
        return False
    for late in row:
        for early in left:
            if early < late and must_be_behind(orders[early], orders[late]):
                return False
            if early < late and early not in row and must_not_be_ahead(orders[early], orders[late]):
                return False
    return True


def full_rows(machine, orders, left):
    rows = [row for row in subsets(left) if is_first(machine, orders, left, row)]
    return [row for row in rows if not any(tuple(sorted(row + (k,))) in rows for k in left if k not in row)]


def plainly_holds(machine, orders, paper):
    """[16] by its words, of a paper that has the form of one."""
    many, claims = paper
    if (everything(orders), many) not in claims:
        return False
    for left, some in claims:
        if some <= 0:
            continue
        if left == ():
            return False
        for row in full_rows(machine, orders, left):
            rest = tuple(k for k in left if k not in row)
            if some > 1 and not any(other == rest and more >= some - 1 for other, more in claims):
                return False
    return True


class Told(unittest.TestCase):
    def yes(self, paper, orders=THREE, machine=NARROW):
        self.assertIs(paper_holds(machine, orders, paper), True, paper)

    def no(self, paper, orders=THREE, machine=NARROW):
        self.assertIs(paper_holds(machine, orders, paper), False, paper)


class Papers(Told):
    def check(self, machine, orders):
        paper = paper_of(machine, orders)
        many, claims = paper
        self.assertEqual(many, len(packed(machine, orders)))
        self.assertIn((everything(orders), many), claims)
        self.assertIsInstance(paper, tuple)
        self.assertIsInstance(claims, tuple)
        self.yes(paper, orders, machine)
        return paper

    def test_none_and_one(self):
        many, claims = self.check(WIDE, [])
        self.assertEqual(many, 0)
        self.assertIn(((), 0), claims)
        many, claims = self.check(WIDE, [("put", A, 1)])
        self.assertEqual(many, 1)
        self.assertIn(((0,), 1), claims)

    def test_ordinary(self):
        self.check(NARROW, THREE)
        self.check(WIDE, THREE)
        self.check(NARROW, puts(4))

    def test_ten_orders(self):
        for machine in (NARROW, WIDE, (4, ("a", "b"), 12, 3, 3, 10)):
            self.check(machine, puts(10))
            self.check(machine, [("load", ("hid", k), A) for k in range(10)])
            self.check(machine, [("put", A, 1)] * 10)
            self.check(machine, puts(5) + [("alu", "add", ("hid", k + 5), ("hid", k), A) for k in range(5)])

    def test_eleven(self):
        for orders in (puts(11), [("put", A, 1)] * 11, puts(12)):
            with self.assertRaises(TooMany):
                paper_of(NARROW, orders)

    def test_by_chance(self):
        rng = random.Random(20)
        for step in range(300):
            machine = (2, ("a", "b"), 3, rng.randrange(1, 4), rng.randrange(1, 4), 4)
            orders = [some_order(rng, machine) for k in range(rng.randrange(7))]
            many, claims = self.check(machine, orders)
            self.assertTrue(plainly_holds(machine, orders, (many, claims)))
            for change in (-1, 1):
                self.no((many + change, claims), orders, machine)
            taller = tuple((left, some + (left == everything(orders))) for left, some in claims)
            self.no((many + 1, taller), orders, machine)

    def test_a_claim_changed_or_left_out(self):
        rng = random.Random(21)
        told = []
        for step in range(200):
            machine = (2, ("a", "b"), 3, rng.randrange(1, 3), rng.randrange(1, 3), 4)
            orders = [some_order(rng, machine) for k in range(rng.randrange(1, 6))]
            many, claims = paper_of(machine, orders)
            for at, (left, some) in enumerate(claims):
                for new in ((), ((left, some + 1),), ((left, some - 1),), ((left[1:], some),), ((left, some),) * 2):
                    paper = (many, claims[:at] + new + claims[at + 1:])
                    right = plainly_holds(machine, orders, paper)
                    self.assertIs(paper_holds(machine, orders, paper), right, (orders, paper))
                    told.append(right)
        self.assertTrue(min(told.count(True), told.count(False)) > 300)

    def test_handed_lists_stay(self):
        orders = list(THREE)
        paper_of(NARROW, orders)
        paper_holds(NARROW, orders, GOOD)
        self.assertEqual(orders, THREE)

    def test_asked_again_tells_the_same(self):
        self.assertEqual(paper_of(NARROW, THREE), paper_of(NARROW, list(THREE)))


class Holds(Told):
    def test_right(self):
        self.yes(GOOD)
        self.yes((3, GOOD[1][::-1]))

    def test_many_one_more_or_less(self):
        self.no((2, GOOD[1]))
        self.no((4, GOOD[1]))
        self.no((0, GOOD[1]))
        self.no((4, (((0, 1, 2), 4),) + GOOD[1]))

    def test_a_lesser_many_holds_with_its_claim(self):
        self.yes((2, (((0, 1, 2), 2),) + GOOD[1]))
        self.yes((2, (((0, 1, 2), 2), ((1, 2), 1), ((0, 2), 1))))
        self.yes((1, (((0, 1, 2), 1),)))
        self.yes((0, (((0, 1, 2), 0),)))
        self.yes((-3, (((0, 1, 2), -3),)))

    def test_a_claim_left_out(self):
        for at in range(4):
            self.no((3, GOOD[1][:at] + GOOD[1][at + 1:]))

    def test_a_claim_with_too_great_a_many(self):
        for at in range(4):
            left, many = GOOD[1][at]
            self.no((3, GOOD[1] + ((left, many + 1),)))
            self.no((3, GOOD[1][:at] + ((left, many + 1),) + GOOD[1][at + 1:]))
        self.no((3, GOOD[1] + (((0,), 2),)))
        self.no((3, GOOD[1] + (((), 1),)))
        self.no((3, GOOD[1] + (((0, 1, 2), 999999999),)))

    def test_claims_that_need_none(self):
        for claim in (((), 0), ((), -1), ((0,), 0), ((0, 1), -999999999), ((0, 1, 2), 0), ((1,), 1), ((0, 1), 1),
                      ((0, 1), 0)):
            self.yes((3, GOOD[1] + (claim,)))
            self.yes((3, (claim,) + GOOD[1]))

    def test_several_claims_with_the_same_left(self):
        self.yes((3, GOOD[1] + GOOD[1]))
        self.yes((3, (((1, 2), 1),) + GOOD[1] + (((1, 2), 0),)))
        self.no((3, (((1, 2), 3),) + GOOD[1]))
        self.no((3, (((0, 1, 2), 3), ((1, 2), 1), ((0, 2), 2), ((2,), 1))))

    def test_no_claim_of_all_orders(self):
        self.no((3, ()))
        self.no((0, ()))
        self.no((2, GOOD[1][1:]))
        self.no((2, ((("x",), 2),)))
        self.yes((0, (((), 0),)), [])
        self.no((0, ()), [])
        self.no((1, (((), 1),)), [])
        self.yes((-1, (((), -1),)), [])

    def test_left_not_rising(self):
        for left in ((1, 0), (0, 0), (2, 1, 0), (0, 2, 1), (0, 1, 1, 2)):
            for many in (0, 1, -1):
                self.no((3, GOOD[1] + ((left, many),)))

    def test_left_with_numbers_that_are_no_orders(self):
        for left in ((3,), (-1,), (0, 3), (-1, 0), (999999999,), (True,), (False,), (0, True), (None,), ("0",), (0.0,),
                     ((),), ([],), (nested(90),)):
            for many in (0, 1, -1):
                self.no((3, GOOD[1] + ((left, many),)))

    def test_claims_of_other_forms(self):
        for claim in (None, True, 0, "", (), [], {}, (0, 1), ((0,),), ((0,), 1, 1), [(0,), 1], ([0], 1), (0, 1),
                      ((0,), True), ((0,), False), ((0,), None), ((0,), "1"), ((0,), 1.0), ((0,), (1,)), ({}, 0),
                      ("", 0), (None, 0), nested(90), nested_lists(90), Plain()):
            self.no((3, GOOD[1] + (claim,)))
            self.no((3, (claim,) + GOOD[1]))

    def test_papers_of_other_forms(self):
        many, claims = GOOD
        for paper in ([many, claims], (many,), (many, claims, ()), (many, list(claims)), (claims, many), claims,
                      (many, [list(claim) for claim in claims]), (many, dict(claims)), (str(many), claims),
                      (float(many), claims), ((many,), claims), (None, claims), (many, None), (many, ""), (GOOD,)):
            self.no(paper)
        self.no((True, (((0, 1, 2), 1),)))
        self.no((True, (((0, 1, 2), True),)))
        self.no((1, (((0, 1, 2), True),)))
        self.no((False, (((), 0),)), [])

    def test_anything(self):
        for thing in anything() + [nested(100), nested_lists(100), (3, nested(98)), (nested(98), GOOD[1])]:
            self.no(thing)
            self.no(thing, [])
            self.no((3, thing))
            self.no((3, GOOD[1] + (thing,)))
            self.no((0, (((), 0), (thing, -1))), [])

    def test_first_rows_with_orders_that_may_not_stand_ahead(self):
        # The put of a register may stand in the load's row, not ahead of it: one row holds both.
        orders = [("load", H0, A), ("put", B, 1)]
        self.yes((1, (((0, 1), 1),)), orders)
        self.no((2, (((0, 1), 2), ((1,), 1), ((0,), 1))), orders)
        # With a second load, a put of a register goes with the last of them.
        orders = [("load", H0, A), ("load", H1, A), ("put", B, 1)]
        self.yes((2, (((0, 1, 2), 2), ((1, 2), 1), ((0, 2), 1))), orders)
        self.no((2, (((0, 1, 2), 2), ((1, 2), 1))), orders)
        self.no((2, (((0, 1, 2), 2), ((1, 2), 1), ((0, 1), 1))), orders)

    def test_only_full_first_rows_count(self):
        # Each full first row takes both puts, so no claim of one put alone is needed.
        self.yes((2, (((0, 1, 2), 2), ((2,), 1))), THREE, WIDE)
        self.no((3, (((0, 1, 2), 3), ((1, 2), 2), ((0, 2), 2), ((2,), 1))), THREE, WIDE)

    def test_longer_lists_are_answered(self):
        orders = puts(11)
        self.yes((1, ((everything(orders), 1),)), orders)
        self.no((2, ((everything(orders), 2),)), orders)


if __name__ == "__main__":
    unittest.main()
