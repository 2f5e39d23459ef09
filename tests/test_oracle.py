"""The program beside the plain reading of the document in oracle.py, over many made-up lines."""

import random
import unittest

from soundpages.maker import answers
from tests.helper import START, fill, line, put, split, take
from tests.oracle import Oracle

NAMES = ["a", "b", "x", "y"]
TAGS = NAMES + ["p", "script", "style"]
ATTRS = ["href", "src", "id", "style", "onx", "cite", "class"]
CHARS = ["a", "/", ":", ">", "}", "\n", " ", "&lt;", "&amp;", "&quot;", "&gt;", "&#123;", "&#60;", "\xff", "//",
         "https://", "&#10;", "&#38;lt;", "javascript:", "#"]
NOISE = ["<", "&", "{", "}", '"', "\t", "&#0;", "&#256;", "{x", "{/}", "</a>", "<a>", "{?x}", "{>q}", "{{", "{}",
         "&#1;", "{X}", "\x00", "&;", "<a b=\"<\">", "=", " "]


class Writer:
    def __init__(self, seed):
        self.random = random.Random(seed)

    def chance(self, share):
        return self.random.random() < share

    def chars(self, holes):
        out = ""
        for number in range(self.random.randrange(4)):
            if holes and self.chance(0.4):
                out += self.random.choice(["{" + self.random.choice(NAMES) + "}", "{{"])
            else:
                out += self.random.choice(CHARS)
        return out

    def blanks(self, least=0):
        return "".join(self.random.choice(" \n") for number in range(self.random.choice([least, least, 1, 2])))

    def element(self, depth, holes, uses):
        name = self.random.choice(NAMES if self.chance(0.85) else TAGS)
        attrs = ""
        for number in range(self.random.choice([0, 0, 0, 1, 1, 2])):
            attr = self.random.choice(ATTRS)
            attrs += f'{self.blanks(1) or " "}{attr}="{self.chars(holes)}"'
        if self.chance(0.3):
            return f"<{name}{attrs}{self.blanks()}/>"
        return f"<{name}{attrs}{self.blanks()}>{self.parts(depth - 1, holes, uses)}</{name}{self.blanks()}>"

    def parts(self, depth, holes=False, uses=()):
        out = ""
        for number in range(self.random.randrange(5)):
            pick = self.random.random()
            if pick < 0.35 or depth == 0:
                out += self.chars(holes)
            elif pick < 0.75 or not holes:
                out += self.element(depth, holes, uses)
            elif pick < 0.95 or not uses:
                kind = self.random.choice("?!**")
                out += "{" + kind + self.random.choice(NAMES) + "}" + self.parts(depth - 1, holes, uses) + "{/}"
            else:
                out += "{>" + self.random.choice(uses) + "}"
        return out

    def spoiled(self, text):
        if not self.chance(0.15):
            return text
        at = self.random.randrange(len(text) + 1)
        return text[:at] + self.random.choice(NOISE) + text[at + self.random.randrange(2):]

    def call(self):
        name = self.random.choice(["t", "u", "v", "w"])
        pick = self.random.random()
        if pick < 0.5:
            return ("put", name, self.spoiled(self.parts(4, True, ["t", "u", "v"])))
        if pick < 0.6:
            return ("take", name)
        if pick < 0.61:
            return ("start",)
        return ("fill", name, self.spoiled(self.parts(4)))


MAKERS = {"put": put, "take": take, "fill": fill, "start": lambda: START}


class BesideTheOracle(unittest.TestCase):
    def test_many_lines(self):
        pages = set()
        refusals = set()
        for seed in range(1500):
            writer = Writer(seed)
            calls = [("start",)] + [writer.call() for number in range(25)]
            oracle = Oracle()
            meant = [getattr(oracle, call[0])(*call[1:]) for call in calls]
            given = split(answers(line(*[MAKERS[call[0]](*call[1:]) for call in calls])))
            for call, one, other in zip(calls, given, meant):
                self.assertEqual(one, other, (seed, call))
                (pages if isinstance(one, str) else refusals).add(one)
        # That the lines are worth something: many pages came, and many refusals.
        self.assertGreater(len(pages), 1500)
        self.assertLessEqual({-2, -13, -16, -17, -22, -71}, refusals)


if __name__ == "__main__":
    unittest.main()
