"""[19]: the store of programs."""

import copy
import random
import unittest

from steploft.stores import is_store, store_of
from things import A, B, H0, H1, MACHINE, Plain, anything, nested, nested_lists, some_program, some_row

END = ("end",)
NOP = ((), END)
PUT = tuple((("put", A, n),) for n in range(16))
SMALL = (1, ("a",), 1, 1, 1, 0)


def tree(program, at):
    """All that a row leads to, as one thing: rows with like trees are alike."""
    orders, onward = program[at]
    if onward[0] == "test":
        return (orders, onward[:2], tree(program, onward[2]), tree(program, onward[3]))
    return (orders, onward[:1]) + tuple(tree(program, k) for k in onward[1:])


def plain_store(programs):
    """[19] by its words."""
    found = []

    def come_to(program, at):
        if tree(program, at) in [tree(*row) for row in found]:
            return
        found.append((program, at))
        onward = program[at][1]
        for number in onward[2:] if onward[0] == "test" else onward[1:]:
            come_to(program, number)

    def number_of(program, at):
        return [tree(*row) for row in found].index(tree(program, at))

    for name in sorted(programs):
        come_to(programs[name], 0)
    rows = []
    for program, at in found:
        orders, onward = program[at]
        many = 2 if onward[0] == "test" else 1
        rows.append((orders, onward[:many] + tuple(number_of(program, k) for k in onward[many:])))
    return tuple(rows), tuple((name, number_of(programs[name], 0)) for name in sorted(programs))


def go(orders, k):
    return (orders, ("go", k))


def end(orders):
    return (orders, END)


def test(orders, k, other, place=A):
    return (orders, ("test", place, k, other))


class Told(unittest.TestCase):
    def told(self, programs, rows, starts):
        self.assertEqual(store_of(programs), (tuple(rows), tuple(starts)))
        self.assertEqual(plain_store(programs), (tuple(rows), tuple(starts)))

    def test_one_program_of_one_row(self):
        self.told({"x": (end(()),)}, [end(())], [("x", 0)])
        self.told({"x": (end(PUT[3]),)}, [end(PUT[3])], [("x", 0)])

    def test_one_program_of_unlike_rows_stays_as_it_is(self):
        program = (test(PUT[0], 1, 3), go(PUT[1], 2), end(PUT[2]), go(PUT[3], 4), end(PUT[4]))
        self.told({"x": program}, program, [("x", 0)])

    def test_several_programs_one_behind_the_other(self):
        one, other = (go(PUT[0], 1), end(PUT[1])), (go(PUT[2], 1), end(PUT[3]))
        rows = [go(PUT[0], 1), end(PUT[1]), go(PUT[2], 3), end(PUT[3])]
        self.told({"one": one, "two": other}, rows, [("one", 0), ("two", 2)])

    def test_starts_by_the_names_order_whatever_the_dicts(self):
        programs = {"b": (end(PUT[0]),), "aa": (end(PUT[1]),), "a": (end(PUT[2]),), "abc": (end(PUT[3]),)}
        rows = [end(PUT[2]), end(PUT[1]), end(PUT[3]), end(PUT[0])]
        self.told(programs, rows, [("a", 0), ("aa", 1), ("abc", 2), ("b", 3)])

    def test_like_tails_across_programs(self):
        one = (go(PUT[0], 1), go(PUT[1], 2), end(PUT[2]))
        other = (go(PUT[3], 1), go(PUT[1], 2), end(PUT[2]))
        rows = [go(PUT[0], 1), go(PUT[1], 2), end(PUT[2]), go(PUT[3], 1)]
        self.told({"one": one, "two": other}, rows, [("one", 0), ("two", 3)])

    def test_like_tails_within_a_program(self):
        program = (test(PUT[0], 1, 3), go(PUT[1], 2), end(PUT[2]), go(PUT[1], 4), end(PUT[2]))
        self.told({"x": program}, [test(PUT[0], 1, 1), go(PUT[1], 2), end(PUT[2])], [("x", 0)])

    def test_a_start_in_the_middle_of_another_program(self):
        one = (go(PUT[0], 1), go(PUT[1], 2), end(PUT[2]))
        self.told({"a": one, "b": (end(PUT[2]),)}, one, [("a", 0), ("b", 2)])
        rows = [end(PUT[2]), go(PUT[0], 2), go(PUT[1], 0)]
        self.told({"b": one, "a": (end(PUT[2]),)}, rows, [("a", 0), ("b", 1)])

    def test_two_starts_with_the_same_number(self):
        program = (go(PUT[0], 1), end(PUT[1]))
        self.told({"x": program, "y": program}, program, [("x", 0), ("y", 0)])
        longer = (go(PUT[0], 2), end(PUT[5]), end(PUT[1]))
        self.told({"x": program, "y": longer}, program, [("x", 0), ("y", 0)])

    def test_rows_that_none_comes_to_are_left_out(self):
        program = (go(PUT[0], 2), end(PUT[1]), end(PUT[2]), end(PUT[3]))
        self.told({"x": program}, [go(PUT[0], 1), end(PUT[2])], [("x", 0)])
        self.told({"x": (end(PUT[0]), end(PUT[1]))}, [end(PUT[0])], [("x", 0)])
        far = (end(PUT[0]), go(PUT[1], 2), end(PUT[2]))
        self.told({"x": far, "y": (end(PUT[2]),)}, [end(PUT[0]), end(PUT[2])], [("x", 0), ("y", 1)])

    def test_a_test_whose_ways_are_like(self):
        self.told({"x": (test((), 1, 1), end(()))}, [test((), 1, 1), end(())], [("x", 0)])
        self.told({"x": (test((), 2, 1), end(()), end(()))}, [test((), 1, 1), end(())], [("x", 0)])
        # It is no go.
        self.told({"x": (test((), 1, 1), end(())), "y": (go((), 1), end(()))},
                  [test((), 1, 1), end(()), go((), 1)], [("x", 0), ("y", 2)])


class Unlike(unittest.TestCase):
    def many(self, one, other, many):
        """How many rows two programs have in all, with their ends PUT[1] and PUT[2] behind them."""
        ends = (end(PUT[1]), end(PUT[2]))
        store = store_of({"one": (one,) + ends, "two": (other,) + ends})
        self.assertEqual(len(store[0]), many)
        self.assertEqual(store[1][0][1] == store[1][1][1], one == other)
        self.assertEqual(store, plain_store({"one": (one,) + ends, "two": (other,) + ends}))

    def test_each_by_itself(self):
        like = test(PUT[0], 1, 2)
        self.many(like, like, 3)
        self.many(like, test(PUT[3], 1, 2), 4)
        self.many(like, test((), 1, 2), 4)
        self.many(like, test(PUT[0], 1, 2, B), 4)
        self.many(like, test(PUT[0], 1, 2, H0), 4)
        self.many(like, test(PUT[0], 2, 2), 4)
        self.many(like, test(PUT[0], 1, 1), 4)
        self.many(like, test(PUT[0], 2, 1), 4)

    def test_words_of_next(self):
        self.many(go(PUT[0], 1), test(PUT[0], 1, 1), 3)
        self.many(go(PUT[0], 1), end(PUT[0]), 3)
        self.many(end(PUT[0]), test(PUT[0], 1, 2), 4)
        self.many(go(PUT[0], 1), go(PUT[0], 2), 4)

    def test_what_stands_far_behind(self):
        one = (go((), 1), go((), 2), go((), 3), end(PUT[1]))
        other = (go((), 1), go((), 2), go((), 3), end(PUT[2]))
        self.assertEqual(len(store_of({"one": one, "two": other})[0]), 8)
        self.assertEqual(len(store_of({"one": one, "two": one})[0]), 4)


class Numbers(unittest.TestCase):
    def test_all_behind_k_ahead_of_l(self):
        program = (test(PUT[0], 3, 1), go(PUT[1], 2), end(PUT[2]), test(PUT[3], 5, 4), end(PUT[4]), end(PUT[5]))
        rows = (test(PUT[0], 1, 4), test(PUT[3], 2, 3), end(PUT[5]), end(PUT[4]), go(PUT[1], 5), end(PUT[2]))
        self.assertEqual(store_of({"x": program}), (rows, (("x", 0),)))
        self.assertEqual(plain_store({"x": program}), (rows, (("x", 0),)))

    def test_a_row_come_to_by_k_and_by_l(self):
        # Row 2 is come to by l of row 0, and deep below its k: it gets its number there.
        program = (test(PUT[0], 1, 2), go(PUT[1], 2), go(PUT[2], 3), end(PUT[3]))
        self.assertEqual(store_of({"x": program}), (program, (("x", 0),)))
        program = (test(PUT[0], 1, 2), test(PUT[1], 4, 2), go(PUT[2], 3), end(PUT[3]), end(PUT[4]))
        rows = (test(PUT[0], 1, 3), test(PUT[1], 2, 3), end(PUT[4]), go(PUT[2], 4), end(PUT[3]))
        self.assertEqual(store_of({"x": program}), (rows, (("x", 0),)))
        self.assertEqual(plain_store({"x": program}), (rows, (("x", 0),)))

    def test_a_row_come_to_by_a_later_start(self):
        one = (test(PUT[0], 1, 2), end(PUT[1]), end(PUT[2]))
        other = (test(PUT[3], 1, 2), end(PUT[2]), go(PUT[4], 3), end(PUT[1]))
        rows = (test(PUT[0], 1, 2), end(PUT[1]), end(PUT[2]), test(PUT[3], 2, 4), go(PUT[4], 1))
        self.assertEqual(store_of({"one": one, "two": other}), (rows, (("one", 0), ("two", 3))))

    def test_long_ones(self):
        chain = tuple(go(PUT[k % 16], k + 1) for k in range(299)) + (end(()),)
        self.assertEqual(store_of({"x": chain}), (chain, (("x", 0),)))
        self.assertEqual(store_of({"x": chain, "y": chain[-1:]}), (chain, (("x", 0), ("y", 299))))
        # Each row of another chain differs from those of the first by what ends it.
        hundred = tuple(go(PUT[k % 16], k + 1) for k in range(99)) + (end(PUT[0]),)
        rows, starts = store_of({"x": chain, "y": hundred})
        self.assertEqual((len(rows), starts), (400, (("x", 0), ("y", 300))))
        ladder = tuple(test((), k + 1, k + 2) for k in range(298)) + (end(PUT[0]), end(PUT[1]))
        self.assertEqual(store_of({"x": ladder}), (ladder, (("x", 0),)))

    def test_many_names(self):
        names = [one + other for one in "abcdefgh" for other in "abcdefgh"]
        rows, starts = store_of({name: (go(PUT[1], 1), end(PUT[2])) for name in reversed(names)})
        self.assertEqual(len(rows), 2)
        self.assertEqual(starts, tuple((name, 0) for name in names))


class ByChance(unittest.TestCase):
    def test_as_told_by_the_words(self):
        rng = random.Random(19)
        for turn in range(400):
            choices = [some_row(rng, SMALL, 1) for k in range(rng.randrange(1, 4))]
            names = rng.sample(("a", "b", "c", "d", "e"), rng.randrange(1, 5))
            programs = {name: some_program(rng, SMALL, rng.randrange(1, 9), choices) for name in names}
            before = copy.deepcopy(programs)
            store = store_of(programs)
            self.assertEqual(store, plain_store(programs))
            self.assertEqual((programs, list(programs)), (before, list(before)))
            self.assertIs(is_store(SMALL, store), True)
            self.assertEqual(len({tree(store[0], at) for at in range(len(store[0]))}), len(store[0]))
            for name, number in store[1]:
                self.assertEqual(tree(store[0], number), tree(programs[name], 0))

    def test_the_dict_may_be_changed_behind_it(self):
        programs = {"x": (end(PUT[0]),)}
        store = store_of(programs)
        programs["y"] = (end(PUT[1]),)
        del programs["x"]
        self.assertEqual(store, ((end(PUT[0]),), (("x", 0),)))


ROWS = (test(PUT[0], 2, 1, H0), end(PUT[1]), go(PUT[2], 1))
STARTS = (("a", 0), ("b", 2))


class IsStore(unittest.TestCase):
    def yes(self, rows, starts=STARTS):
        self.assertIs(is_store(MACHINE, (rows, starts)), True)

    def no(self, rows, starts=STARTS):
        self.assertIs(is_store(MACHINE, (rows, starts)), False, (rows, starts))

    def test_rows(self):
        self.yes(ROWS)
        self.yes((end(()),) * 400)
        self.no((end(()),) * 401)
        self.no((), STARTS)
        self.no((), ())
        self.no(list(ROWS))
        for row in (None, (), [(), END], ((),), ((), END, ()), ((("put", A, 16),), END), ((), None), ([], END),
                    ((), ("go", 3)), ((), ("go", -1)), ((), ("go", True)), ((), ("test", ("hid", 2), 1, 1)),
                    ((), ("test", H1, 1, 3)), ((), ("test", H1, 3, 1)), ((), ["end"]), "0 nop ; end", nested(90)):
            self.no(ROWS[:2] + (row,))
        for onward in (("go", -1), ("go", -2), ("test", A, -1, 1), ("test", A, 1, -1)):
            self.no((((), onward), NOP, NOP))
            self.yes((((), ("go", 1)), NOP, NOP))

    def test_rows_for_another_machine(self):
        self.assertIs(is_store((4, ("a",), 0, 1, 1, 0), (ROWS, STARTS)), False)
        self.assertIs(is_store((1, ("a",), 1, 1, 1, 0), (ROWS, STARTS)), False)
        self.assertIs(is_store((2, ("a",), 1, 1, 1, 0), (ROWS, STARTS)), True)

    def test_rings(self):
        self.no((go((), 0), end(()), end(())))
        self.no((end(()), go((), 1), end(())))
        self.no((go((), 1), go((), 0), end(())))
        self.no((end(()), go((), 2), go((), 1)))
        self.no((test((), 1, 2), end(()), go((), 0)))
        self.no((test((), 2, 1), end(()), go((), 0)))
        self.no((test((), 0, 1), end(()), end(())))
        self.no((test((), 1, 0), end(()), end(())))
        self.no(tuple(go((), (k + 1) % 400) for k in range(400)))
        self.yes(tuple(go((), k - 1) if k else end(()) for k in range(400)))
        self.yes(tuple(test((), k - 1, k // 2) if k else end(()) for k in range(400)))
        self.yes((test((), 1, 1), end(()), test((), 1, 0)))

    def test_starts(self):
        self.yes(ROWS, (("z", 1),))
        self.yes(ROWS, (("a", 1), ("aa", 1), ("ab", 0), ("b", 2), ("zzzzzzzz", 1)))
        self.no(ROWS, ())
        self.no(ROWS, list(STARTS))
        for starts in ((("a", 0), ("a", 0)), (("b", 0), ("a", 0)), (("aa", 0), ("a", 0)), (("a", 3),), (("a", -1),),
                       (("a", True),), (("a", None),), (("a", "0"),), (("A", 0),), (("", 0),), (("abcdefghi", 0),),
                       (("a1", 0),), ((None, 0),), ((b"a", 0),), (("a",),), (("a", 0, 0),), (["a", 0],), ("a", 0),
                       ((("a",), 0),), (nested(90),), "a", None, {"a": 0}, (0, "a"), ((0, "a"),), (("a", 0.0),)):
            self.no(ROWS, starts)

    def test_anything(self):
        for thing in anything() + [nested(50), nested_lists(50), Plain(), (ROWS,), (ROWS, STARTS, ()), [ROWS, STARTS],
                                   (STARTS, ROWS), (ROWS, ROWS), (STARTS, STARTS)]:
            self.assertIs(is_store(MACHINE, thing), False)
            self.no(thing)
            self.no(ROWS, thing)


if __name__ == "__main__":
    unittest.main()
