"""Data: a page, read strictly, mark by mark."""

from soundpages.limits import ATTRIBUTES, DEPTH, PAGE_BYTES, PAGE_MARKS
from soundpages.reader import Reader, has_two_of_one_name
from soundpages.refusals import MALFORMED, TOO_MUCH, TWO_OF_ONE_NAME


# An element of the data; or the page as a whole, which has no name and isn't asked for its text.
class Element:
    def __init__(self, name, begin):
        self.name = name
        # The text of it lies from begin up to end in the text of the page.
        self.begin = begin
        self.end = begin
        # Those that stand in it, in rows by their names.
        self.standing = {}


class Data:
    def __init__(self):
        self.refusal = 0
        self.page = Element("", 0)
        # All texts of the page, one behind another.
        self.text = []
        self.marks = 0
        # Those that are still unended, the innermost last.
        self.unended = [self.page]

    def text_of(self, element):
        return self.text[element.begin:element.end]

    def begin_element(self, name):
        element = Element(name, len(self.text))
        self.unended[-1].standing.setdefault(name, []).append(element)
        self.unended.append(element)

    def end_element(self):
        element = self.unended.pop()
        element.end = len(self.text)

    # Counts marks that have come: the refusal, or 0.
    def count_marks(self, number):
        self.marks += number
        return TOO_MUCH if self.marks > PAGE_MARKS else 0


def read_opening(reader, data):
    tag = reader.take_opening()
    if tag is None:
        return MALFORMED
    if has_two_of_one_name(tag.attributes):
        return TWO_OF_ONE_NAME
    # The page as a whole is among the unended ones, so these are as many as the new one is deep.
    if len(tag.attributes) > ATTRIBUTES or len(data.unended) > DEPTH:
        return TOO_MUCH
    data.begin_element(tag.name)
    if tag.alone:
        data.end_element()
    return data.count_marks(2 if tag.alone else 1)


def read_closing(reader, data):
    name = reader.take_closing()
    # The page as a whole has no name, so nothing ends it.
    if name == "" or name != data.unended[-1].name:
        return MALFORMED
    data.end_element()
    return data.count_marks(1)


def read_text(reader, data):
    wording = reader.take_text()
    if wording is None:
        return MALFORMED
    # There are no holes in a page: each piece is a row of bytes.
    for piece in wording.pieces:
        data.text.extend(piece)
    return data.count_marks(1)


def read_mark(reader, data):
    if reader.sees("</"):
        return read_closing(reader, data)
    if reader.sees("<"):
        return read_opening(reader, data)
    return read_text(reader, data)


def read_data(row):
    data = Data()
    if len(row) > PAGE_BYTES:
        data.refusal = TOO_MUCH
        return data
    reader = Reader(row, False)
    while data.refusal == 0 and not reader.ended():
        data.refusal = read_mark(reader, data)
    if data.refusal == 0 and len(data.unended) > 1:
        data.refusal = MALFORMED
    return data
