"""A page in its one form, written mark by mark."""

from soundpages.limits import DEPTH, PAGE_BYTES, PAGE_MARKS
from soundpages.signs import ESCAPES, GREATER, QUOTE, codes


class OneForm:
    def __init__(self):
        self.row = []
        self.marks = 0
        self.depth = 0
        self.behind_text = False
        # Once it is too much it stays so, whatever else is written.
        self.too_much = False

    def add_opening(self, name, attributes):
        self.row.extend(codes("<" + name))
        for attribute, value in attributes:
            self.row.extend(codes(" " + attribute + "=\""))
            self.write_escaped(value)
            self.row.append(QUOTE)
        self.row.append(GREATER)
        self.depth += 1
        self.behind_text = False
        self.count_mark()

    def add_closing(self, name):
        self.row.extend(codes("</" + name + ">"))
        self.depth -= 1
        self.behind_text = False
        self.count_mark()

    # Texts that meet are one mark, and no bytes are none.
    def add_text(self, text):
        if len(text) == 0:
            return
        self.write_escaped(text)
        if self.behind_text:
            self.check_size()
        else:
            self.behind_text = True
            self.count_mark()

    def count_mark(self):
        self.marks += 1
        self.check_size()

    def check_size(self):
        if self.marks > PAGE_MARKS or self.depth > DEPTH or len(self.row) > PAGE_BYTES:
            self.too_much = True

    def write_escaped(self, text):
        for byte in text:
            if byte in ESCAPES:
                self.row.extend(codes(ESCAPES[byte]))
            else:
                self.row.append(byte)
