"""Which texts, and which beginnings of texts, are of the forms of [89] to [93], by trying all ways."""

import re

from support import Nodes


class Tries:
    """Each method takes places of the text, and returns where what it looks for may end."""

    def __init__(self, text):
        self.text = text
        # Whether the end of the text was reached amid a way that could go on.
        self.ran_out = False

    def literal(self, places, word):
        found = set()
        for at in places:
            if self.text.startswith(word, at):
                found.add(at + len(word))
            elif word.startswith(self.text[at:]):
                self.ran_out = True
        return found

    def integers(self, places, bound, signed):
        found = set()
        for at in places:
            for end in range(at, len(self.text) + 1):
                piece = self.text[at:end]
                is_whole = re.fullmatch("0|-?[1-9][0-9]*", piece) and (signed or piece[0] != "-") and abs(int(piece)) < bound
                if not is_whole and piece not in (("", "-") if signed else ("",)):
                    break
                self.ran_out = self.ran_out or end == len(self.text)
                if is_whole:
                    found.add(end)
        return found

    def numbers(self, places):
        return self.integers(places, 2 ** 60, False)

    def rows(self, places, sign, part, most=10 ** 6):
        found, left = set(), part(places)
        while left and most:
            most -= 1
            found |= left
            left = part(self.literal(left, sign)) if most else set()
        return found

    def rank(self, places):
        return self.literal(places, "-") | self.rows(places, ",", lambda at: self.integers(at, 2 ** 200, True), 8)

    def way(self, places):
        return self.rows(self.literal(self.numbers(places), ":"), "/", self.rank)

    def entry(self, places):
        return self.numbers(self.literal(self.rank(places), "@"))

    def shapes(self, at):
        """Pairs of an end and a shape."""
        found = {(end, ()) for end in self.literal({at}, "o")}
        rows = {(end, ()) for end in self.literal({at}, "(")}
        for most in range(6):
            rows = {(end, kids + (kid,)) for start, kids in rows for end, kid in self.shapes(start)}
            for end, kids in rows:
                found |= {(last, kids) for last in self.literal({end}, ")")}
            rows = {(last, kids) for end, kids in rows for last in self.literal({end}, " ")} if most < 5 else set()
        return found

    def forms(self, places):
        return {end for at in places for end, _ in self.shapes(at)}

    def standing(self, places):
        found = set()
        for at in places:
            for end, form in self.shapes(at):
                held = {end}
                for node in range(len(Nodes(form).shapes)):
                    held = self.literal(held, f" | {node}=")
                    held = held | self.rows(held, ";", self.entry)
                found |= held
        return found

    def plan(self, places):
        held = self.forms(self.literal(self.forms(places), " on "))
        return self.rows(self.literal(held, " by "), ",", self.numbers)

    def table(self, places):
        return self.rows(places, " ", self.table_row)

    def table_row(self, places):
        held = self.numbers(self.literal(self.numbers(places), "."))
        return self.rows(self.literal(held, ":"), ",", self.numbers)

    def answer(self, places):
        return self.way(self.literal(self.way(places), ">"))

    def defeat(self, places):
        held = self.rows(places, " ", self.answer)
        for word in (" at ", " due ", " shown "):
            held = self.numbers(self.literal(held, word))
        return held


def is_whole(text, kind):
    """Whether the text is of the form."""
    return len(text) in getattr(Tries(text), kind)({0})


def begins(text, kind):
    """Whether some text of the form begins with the text."""
    tries = Tries(text)
    whole = getattr(tries, kind)({0})
    return tries.ran_out or len(text) in whole
