"""[21] and the field row of NoText: the texts of programs and stores, and back to the same."""

import random
import re
import unittest

from steploft.errors import NoText
from steploft.stores import is_store, read_program, read_store, show_program, show_store, store_of
from steploft.programs import is_program
from steploft.texts import read_row
from things import A, B, H0, H1, MACHINE, places_of, some_program, some_row, some_store

END = ("end",)
NOP = ((), END)
ODD_NAMES = ("nop", "go", "test", "end", "start", "h")
ODD = (4, ODD_NAMES, 12, 3, 3, 10)
SIGNS = " ;/\t\n019hab"


def chain_text(many, last="end"):
    return "".join(f"{k} nop ; go {k + 1}\n" for k in range(many - 1)) + f"{many - 1} nop ; {last}\n"


def ends_text(many):
    return "".join(f"{k} nop ; end\n" for k in range(many))


def is_prefix(machine, lines, is_of_store):
    """Whether some right text begins with these rows, by the document's words."""
    most = 400 if is_of_store else 300
    graph, names = {}, []
    places = [which if kind == "reg" else f"h{which}" for kind, which in places_of(machine)]
    for line in lines:
        start = re.fullmatch("start ([a-z]{1,8}) (0|[1-9][0-9]{0,8})", line)
        row = re.fullmatch("(0|[1-9][0-9]{0,8}) ([^;]*) ; (end|go [0-9]+|test [a-z0-9]+ [0-9]+ [0-9]+)", line)
        if is_of_store and start:
            named = {k for ways in graph.values() for k in ways}
            if int(start[2]) not in graph or not named <= set(graph) or (names and start[1] <= names[-1]):
                return False
            names.append(start[1])
            continue
        if not row or names or row[1] != str(len(graph)) or len(graph) >= most:
            return False
        try:
            read_row(machine, row[2])
        except NoText:
            return False
        words = row[3].split(" ")
        if words[0] == "test" and words[1] not in places:
            return False
        numbers = words[2:] if words[0] == "test" else words[1:]
        if any(number != str(int(number)) or int(number) >= most for number in numbers):
            return False
        if not is_of_store and any(int(number) <= len(graph) for number in numbers):
            return False
        graph[len(graph)] = {int(number) for number in numbers}
        if leads_back(graph):
            return False
    return True


def leads_back(graph):
    """Whether a row leads back to itself: rows that lead to none that is left are taken away."""
    left = dict(graph)
    while True:
        free = [k for k in left if not left[k] & set(left)]
        if not free:
            return bool(left)
        left = {k: left[k] for k in left if k not in free}


def wrong_row(machine, text, is_of_store):
    """The row that is told of a text that is refused."""
    lines = text.split("\n")
    if lines[-1] == "":
        lines.pop()
    for many in range(1, len(lines) + 1):
        if not is_prefix(machine, lines[:many], is_of_store):
            return many
    return len(lines) + 1


class Told(unittest.TestCase):
    def refused(self, read, row, text, machine=MACHINE):
        with self.assertRaises(NoText) as caught:
            read(machine, text)
        self.assertIs(type(caught.exception), NoText)
        self.assertEqual(caught.exception.row, row, text)
        # The slow way is for short texts.
        if len(text) < 1000:
            self.assertEqual(wrong_row(machine, text, read is read_store), row)

    def read_back(self, program, text, machine=MACHINE):
        self.assertEqual(show_program(program), text)
        self.assertEqual(read_program(machine, text), program)

    def store_back(self, store, text, machine=MACHINE):
        self.assertEqual(show_store(store), text)
        self.assertEqual(read_store(machine, text), store)


class Programs(Told):
    def test_small_ones(self):
        self.read_back((NOP,), "0 nop ; end\n")
        self.read_back((NOP, NOP), "0 nop ; end\n1 nop ; end\n")
        self.read_back((((("put", A, 7),), ("go", 1)), NOP), "0 put a 7 ; go 1\n1 nop ; end\n")
        row = (("alu", "add", A, H0, B), ("put", B, 7), ("store", A, B))
        text = "0 alu add a h0 b / put b 7 / store a b ; test h1 2 1\n1 nop ; end\n2 nop ; end\n"
        self.read_back(((row, ("test", H1, 2, 1)), NOP, NOP), text)

    def test_odd_names(self):
        for name in ODD_NAMES:
            place = ("reg", name)
            program = (((("move", place, place),), ("test", place, 1, 2)), ((("put", place, 3),), ("go", 2)), NOP)
            self.read_back(program, f"0 move {name} {name} ; test {name} 1 2\n1 put {name} 3 ; go 2\n2 nop ; end\n", ODD)
            self.refused(read_program, 1, f"0 move {name} {name} ; test 1 2\n1 nop ; end\n2 nop ; end\n", ODD)
            self.refused(read_program, 1, f"0 {name} ; end {name}\n", ODD)

    def test_long_ones(self):
        chain = tuple(((), ("go", k + 1)) for k in range(299)) + (NOP,)
        self.read_back(chain, chain_text(300))
        self.read_back((NOP,) * 300, ends_text(300))
        far = (((), ("test", A, 299, 1)),) + (NOP,) * 299
        self.read_back(far, "0 nop ; test a 299 1\n" + ends_text(300).partition("\n")[2])
        self.refused(read_program, 301, ends_text(301))
        self.refused(read_program, 301, ends_text(302))
        self.refused(read_program, 301, ends_text(300) + "\n")
        self.refused(read_program, 300, chain_text(301))
        self.refused(read_program, 300, ends_text(299) + "299 nop ; go 300\n300 nop ; end\n")

    def test_rows_lack(self):
        self.refused(read_program, 1, "")
        self.refused(read_program, 2, "0 nop ; go 1\n")
        self.refused(read_program, 2, "0 nop ; test a 1 2\n")
        self.refused(read_program, 3, "0 nop ; test a 1 2\n1 nop ; end\n")
        self.refused(read_program, 3, "0 nop ; test a 2 1\n1 nop ; end\n")
        self.refused(read_program, 2, "0 nop ; go 299\n")
        self.refused(read_program, 300, "0 nop ; go 299\n" + ends_text(299).partition("\n")[2])
        self.refused(read_program, 3, "0 nop ; end\n1 nop ; go 3\n")

    def test_a_last_row_without_a_line_feed(self):
        self.refused(read_program, 2, "0 nop ; end")
        self.refused(read_program, 3, "0 nop ; end\n1 nop ; end")
        self.refused(read_program, 2, "0 nop ; go 1")
        self.refused(read_program, 301, ends_text(300)[:-1])
        self.refused(read_program, 1, "0 nop ; en")
        self.refused(read_program, 2, "0 nop ; end\n1")
        self.refused(read_program, 2, "0 nop ; end\n1 nop ; go 1")
        self.refused(read_program, 2, "0 nop ; end\n ")

    def test_numbers_of_rows(self):
        for number in ("1", "00", "", "-0", "+0", "0x0", "a", "0000000000", "0.0"):
            self.refused(read_program, 1, f"{number} nop ; end\n")
        for number in ("0", "2", "01", "", "10", "-1"):
            self.refused(read_program, 2, f"0 nop ; go 2\n{number} nop ; end\n2 nop ; end\n")

    def test_nexts(self):
        for onward in ("", "end 0", "end 1", " end", "end ", "END", "ends", "go", "go ", "go 0", "go 01", "go -1",
                       "go 1 2", "go  1", "go 300", "go 301", "go 400", "go 1000000000", "go a", "go 1.", "test",
                       "test a", "test a 1", "test 1 2", "test a 1 2 3", "test a 0 1", "test a 1 0", "test a 1 01",
                       "test a 01 1", "test c 1 2", "test h2 1 2", "test h 1 2", "test h00 1 2", "test a  1 2",
                       "test a 300 1", "test a 1 300", "test a 1 999999999", "go 1 ;", "go 1 ; end", "start a 0",
                       "nop", "stop", "test a 1 2 ", "\tend", "test a b 1", "test a 1 b"):
            self.refused(read_program, 1, f"0 nop ; {onward}\n1 nop ; end\n2 nop ; end\n")
        for onward in ("go 1", "go 0", "test a 1 2", "test a 2 1", "test a 0 2", "test a 2 0"):
            self.refused(read_program, 2, f"0 nop ; go 2\n1 nop ; {onward}\n2 nop ; end\n")
        self.refused(read_program, 1, "0 nop ; go 300\n" + ends_text(301).partition("\n")[2])

    def test_orders(self):
        for orders in ("", " ", "nop ", " nop", "nop / nop", "nop nop", "NOP", "put a 16", "put c 1", "put h2 1",
                       "put a 1 /", "put a 1 / ", "put a 1 /put b 1", "put a 1  / put b 1", "put b 1 / put a 1",
                       "put a 1 / put a 2", "put a 1 / put b 1 / put h0 1", "load a b / store a b", "put a 01",
                       "put a", "put a 1 1", "put  a 1", "alu add a a", "alu mul a a a", "move a 1", "end", "go 1",
                       "put a 1 / alu add b b b", "put a 7 / put b 10 / load a a", "store a 1", "h0", "put a 1;"):
            self.refused(read_program, 1, f"0 {orders} ; end\n")
            self.refused(read_program, 2, f"0 nop ; end\n1 {orders} ; end\n2 nop ; end\n")
            self.refused(read_store, 1, f"0 {orders} ; end\nstart a 0\n")

    def test_signs_between(self):
        for row in ("0 nop; end", "0 nop ;end", "0 nop end", "0 nop", "0", "0 ", "0 ; end", "0  nop ; end", " 0 nop ; end",
                    "0 nop  ; end", "0 nop ;  end", "0nop ; end", "0\tnop ; end", "0 nop : end", "0 nop ; end\t", "",
                    "nop ; end", "0 nop ; ; end", "0 nop ; nop ; end", "start a 0", "; end", " ", "\t", "0 nop ;", "0 nop ; "):
            self.refused(read_program, 1, row + "\n")
            self.refused(read_program, 2, "0 nop ; go 1\n" + row + "\n")

    def test_a_place_of_another_machine(self):
        text = "0 put h1 7 ; test b 1 1\n1 nop ; end\n"
        self.assertEqual(len(read_program(MACHINE, text)), 2)
        self.refused(read_program, 1, text, (4, ("a", "b"), 1, 1, 1, 0))
        self.refused(read_program, 1, text, (4, ("a",), 2, 1, 1, 0))
        self.refused(read_program, 1, text, (2, ("a", "b"), 2, 1, 1, 0))


class Stores(Told):
    def test_small_ones(self):
        self.store_back(((NOP,), (("x", 0),)), "0 nop ; end\nstart x 0\n")
        self.store_back(((NOP, NOP), (("x", 1), ("y", 1))), "0 nop ; end\n1 nop ; end\nstart x 1\nstart y 1\n")
        rows = (((("put", A, 7),), ("test", H1, 2, 1)), NOP, ((), ("go", 1)))
        text = "0 put a 7 ; test h1 2 1\n1 nop ; end\n2 nop ; go 1\nstart a 2\nstart aa 0\nstart b 1\n"
        self.store_back((rows, (("a", 2), ("aa", 0), ("b", 1))), text)

    def test_odd_names(self):
        names = sorted(ODD_NAMES)
        for name in ODD_NAMES:
            place = ("reg", name)
            rows = (((("load", place, place),), ("test", place, 1, 2)), ((), ("go", 2)), NOP)
            text = f"0 load {name} {name} ; test {name} 1 2\n1 nop ; go 2\n2 nop ; end\n"
            text += "".join(f"start {other} 1\n" for other in names)
            self.store_back((rows, tuple((other, 1) for other in names)), text, ODD)

    def test_long_ones(self):
        starts = (("x", 399), ("y", 0))
        tail = "start x 399\nstart y 0\n"
        chain = tuple(((), ("go", k + 1)) for k in range(399)) + (NOP,)
        self.store_back((chain, starts), chain_text(400) + tail)
        back = (NOP,) + tuple(((), ("go", k)) for k in range(399))
        text = "0 nop ; end\n" + "".join(f"{k + 1} nop ; go {k}\n" for k in range(399)) + tail
        self.store_back((back, starts), text)
        ladder = (NOP, NOP) + tuple(((), ("test", B, k - 1, k - 2)) for k in range(2, 400))
        self.assertEqual(read_store(MACHINE, show_store((ladder, starts))), (ladder, starts))
        self.refused(read_store, 401, ends_text(401) + tail)
        self.refused(read_store, 401, ends_text(401))
        self.refused(read_store, 400, chain_text(401) + tail)
        self.refused(read_store, 401, ends_text(400))
        self.refused(read_store, 401, ends_text(400) + "\n")

    def test_rows_lack(self):
        self.refused(read_store, 1, "")
        self.refused(read_store, 2, "0 nop ; end\n")
        self.refused(read_store, 3, "0 nop ; end\n1 nop ; go 0\n")
        self.refused(read_store, 2, "0 nop ; go 1\n")
        self.refused(read_store, 2, "0 nop ; test a 399 398\n")

    def test_a_last_row_without_a_line_feed(self):
        self.refused(read_store, 3, "0 nop ; end\nstart x 0")
        self.refused(read_store, 2, "0 nop ; end")
        self.refused(read_store, 2, "0 nop ; go 7")
        self.refused(read_store, 4, "0 nop ; end\nstart x 0\nstart y 0")
        self.refused(read_store, 2, "0 nop ; end\nstart x")
        self.refused(read_store, 2, "0 nop ; end\nstart x 1")
        self.refused(read_store, 1, "0 nop ; go 0")

    def test_nexts(self):
        tail = "1 nop ; end\n2 nop ; end\nstart x 0\n"
        for onward in ("", "go 400", "go 401", "go 999999999", "go 0", "test a 400 1", "test a 1 400", "test c 1 2",
                       "test h2 1 2", "test a 0 1", "test a 1 0", "go 01", "go", "test a 1", "end 1", "go 1 2", "end "):
            self.refused(read_store, 1, f"0 nop ; {onward}\n{tail}")
        self.refused(read_store, 1, "0 nop ; go 400\n" + ends_text(401).partition("\n")[2] + "start x 0\n")
        self.store_back(((((), ("go", 1)), NOP), (("x", 0),)), "0 nop ; go 1\n1 nop ; end\nstart x 0\n")

    def test_rings(self):
        tail = "start x 0\n"
        self.refused(read_store, 1, "0 nop ; go 0\n" + tail)
        self.refused(read_store, 2, "0 nop ; go 1\n1 nop ; go 0\n" + tail)
        self.refused(read_store, 2, "0 nop ; end\n1 nop ; go 1\n" + tail)
        self.refused(read_store, 3, "0 nop ; end\n1 nop ; go 2\n2 nop ; go 1\n" + tail)
        self.refused(read_store, 3, "0 nop ; go 2\n1 nop ; go 0\n2 nop ; test a 3 1\n3 nop ; end\n" + tail)
        self.refused(read_store, 3, "0 nop ; go 2\n1 nop ; end\n2 nop ; test a 1 0\n" + tail)
        self.refused(read_store, 3, "0 nop ; test a 1 2\n1 nop ; end\n2 nop ; test a 0 1\n" + tail)
        self.refused(read_store, 4, "0 nop ; go 3\n1 nop ; go 0\n2 nop ; go 1\n3 nop ; go 2\n" + tail)
        # The row that closes it is told, whatever is wrong behind it.
        self.refused(read_store, 2, "0 nop ; go 1\n1 nop ; go 0\nwrong\n" + tail)
        self.refused(read_store, 2, "0 nop ; go 1\nwrong\n2 nop ; go 2\n" + tail)
        ring = "".join(f"{k} nop ; go {k + 1}\n" for k in range(399)) + "399 nop ; go 0\n"
        self.refused(read_store, 400, ring + tail)

    def test_starts(self):
        rows = "0 nop ; end\n1 nop ; go 0\n"
        for start in ("start", "start ", "start x", "start x ", "start  x 0", "start x  0", "start x 0 ", " start x 0",
                      "start x 2", "start x 3", "start x -1", "start x 00", "start x 01", "start x y", "start X 0",
                      "start x1 0", "start  0", "start abcdefghi 0", "start x 0 0", "START x 0", "starts x 0",
                      "x 0", "start x 0 ; end", "start 0 x", "start\tx 0", "start x 999999999", "start x 1000000000"):
            self.refused(read_store, 3, rows + start + "\n")
            self.refused(read_store, 4, rows + "start a 1\n" + start + "\n")
        self.store_back((read_store(MACHINE, rows + "start abcdefgh 1\n")), rows + "start abcdefgh 1\n")

    def test_starts_not_rising(self):
        rows = "0 nop ; end\n1 nop ; go 0\n"
        for one, other in (("b", "a"), ("a", "a"), ("aa", "a"), ("b", "ab"), ("ba", "b")):
            self.refused(read_store, 4, f"{rows}start {one} 0\nstart {other} 1\n")
            self.refused(read_store, 4, f"{rows}start {one} 0\nstart {other} 1\nstart z 1\n")
        self.refused(read_store, 5, f"{rows}start a 0\nstart b 0\nstart b 0\n")
        self.refused(read_store, 5, f"{rows}start a 0\nstart c 0\nstart b 0\n")

    def test_a_start_while_a_row_is_lacking(self):
        self.refused(read_store, 2, "0 nop ; go 1\nstart x 0\n")
        self.refused(read_store, 2, "0 nop ; go 1\nstart x 0\n1 nop ; end\n")
        self.refused(read_store, 2, "0 nop ; go 1\nstart x 0")
        self.refused(read_store, 3, "0 nop ; go 1\n1 nop ; test a 2 7\nstart x 0\n")
        self.refused(read_store, 3, "0 nop ; test a 1 2\n1 nop ; end\nstart x 0\n")
        self.refused(read_store, 3, "0 nop ; test a 2 1\n1 nop ; end\nstart x 0\n")

    def test_no_rows(self):
        self.refused(read_store, 1, "start x 0\n")
        self.refused(read_store, 1, "start x 0")
        self.refused(read_store, 1, "\n")

    def test_a_row_behind_the_starts(self):
        self.refused(read_store, 3, "0 nop ; end\nstart x 0\n1 nop ; end\n")
        self.refused(read_store, 3, "0 nop ; end\nstart x 0\n2 nop ; end\n")
        self.refused(read_store, 3, "0 nop ; end\nstart x 0\n1 nop ; end\nstart y 1\n")
        self.refused(read_store, 3, "0 nop ; end\nstart x 0\n\n")

    def test_numbers_of_rows(self):
        for number in ("0", "2", "01", "", "10", "-1", "x"):
            self.refused(read_store, 2, f"0 nop ; end\n{number} nop ; end\nstart x 0\n")


class ByChance(Told):
    def near(self, rng, text):
        """A text near to another one: rows or signs more, less, doubled or changed."""
        lines = text.split("\n")
        at = rng.randrange(len(lines))
        other = rng.randrange(len(lines))
        kind = rng.randrange(5)
        if kind == 0:
            del lines[at]
        elif kind == 1:
            lines.insert(at, lines[other])
        elif kind == 2:
            lines[at], lines[other] = lines[other], lines[at]
        elif kind == 3:
            spot = rng.randrange(len(text) + 1)
            return text[:spot] + rng.choice(SIGNS) + text[spot + rng.randrange(2):]
        else:
            lines[at] = re.sub("[0-9]+$", lambda found: str(rng.choice((0, 1, 2, 3, 299, 300, 399, 400))), lines[at])
        return "\n".join(lines)

    def same_or_refused(self, read, show, text):
        row = wrong_row(MACHINE, text, read is read_store)
        try:
            told = read(MACHINE, text)
        except NoText as error:
            self.assertEqual(error.row, row, text)
            return
        self.assertEqual(show(told), text)
        self.assertEqual(row, text.count("\n") + 1)
        self.assertTrue(is_store(MACHINE, told) if read is read_store else is_program(MACHINE, told))

    def test_programs(self):
        rng = random.Random(21)
        for turn in range(300):
            program = some_program(rng, MACHINE, rng.randrange(1, 8))
            text = show_program(program)
            self.assertEqual(read_program(MACHINE, text), program)
            for more in range(8):
                self.same_or_refused(read_program, show_program, self.near(rng, text))

    def test_stores(self):
        rng = random.Random(22)
        for turn in range(300):
            store = some_store(rng, MACHINE, rng.randrange(1, 8))
            text = show_store(store)
            self.assertEqual(read_store(MACHINE, text), store)
            for more in range(8):
                self.same_or_refused(read_store, show_store, self.near(rng, text))
                self.same_or_refused(read_store, show_store, self.near(rng, self.near(rng, text)))

    def test_told_stores(self):
        rng = random.Random(23)
        for turn in range(50):
            names = rng.sample(ODD_NAMES, 3)
            choices = [some_row(rng, ODD, 3) for k in range(3)]
            store = store_of({name: some_program(rng, ODD, 20, choices) for name in names})
            self.assertEqual(read_store(ODD, show_store(store)), store)


if __name__ == "__main__":
    unittest.main()
