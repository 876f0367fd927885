"""The way from a meaning's text to its parts. It lets by more than is right: who asks has to check what is told."""

from steploft.errors import NoText
from steploft.ways import MOST_LEVELS, number_read

BRACKETS = ("[", "]", "(", ")")


def meaning_read(text):
    """What a text is if it is a meaning's, whether or not a machine has its parts; NoText where it can be none."""
    return Scanner(words_of(text)).meaning(1)


def words_of(text):
    """The words of a text, each round or square bracket one by itself."""
    for bracket in BRACKETS:
        text = text.replace(bracket, f" {bracket} ")
    return [word for word in text.split(" ") if word != ""]


def check_level(level):
    """NoText where nothing may stand so deep; so no text leads farther down."""
    if level > MOST_LEVELS:
        raise NoText(1)


class Scanner:
    """Goes through words from the first to the last; beyond the last one there are empty ones."""

    def __init__(self, words):
        self.words = words
        self.at = 0

    def ahead(self, by):
        """The word that stands so many words ahead."""
        return self.words[self.at + by] if self.at + by < len(self.words) else ""

    def take(self):
        """The next word, which is passed."""
        word = self.ahead(0)
        self.at += 1
        return word

    def expect(self, word):
        """Passes this very word."""
        if self.take() != word:
            raise NoText(1)

    def meaning(self, level):
        """What is done, off its words."""
        check_level(level)
        # A set of a place that is called if or nop has = behind the name; nothing else has.
        is_set = self.ahead(1) == "="
        if self.ahead(0) == "if" and not is_set:
            return self.choice(level)
        if self.ahead(0) == "nop" and not is_set:
            self.take()
            return ("do", (), ())
        return self.done(level)

    def choice(self, level):
        """An if, off its words."""
        self.expect("if")
        test = self.term(level + 1)
        self.expect("then")
        one = self.way(level + 1)
        self.expect("else")
        return ("if", test, one, self.way(level + 1))

    def way(self, level):
        """A way of an if, off its words and the brackets around it."""
        self.expect("{")
        meaning = self.meaning(level)
        self.expect("}")
        return meaning

    def done(self, level):
        """A do with a set or a store at least, off its words."""
        sets = []
        while self.ahead(0) != "[":
            name = self.take()
            self.expect("=")
            sets.append((name, self.term(level + 1)))
            if self.ahead(0) != ";":
                return ("do", tuple(sets), ())
            self.take()
        self.expect("[")
        cell = self.term(level + 1)
        self.expect("]")
        self.expect("=")
        return ("do", tuple(sets), ((cell, self.term(level + 1)),))

    def term(self, level):
        """A term, off its words."""
        check_level(level)
        word = self.take()
        if word == "[":
            cell = self.term(level + 1)
            self.expect("]")
            return ("load", cell)
        if word == "(":
            one = self.term(level + 1)
            op = self.take()
            other = self.term(level + 1)
            self.expect(")")
            return (op, one, other)
        number = number_read(word)
        return ("reg", word) if number is None else ("num", number)
