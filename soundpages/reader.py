"""What pages and templates have in common: names, tags, texts and values, read from a row of bytes."""

from soundpages.limits import NAME_BYTES
from soundpages.signs import AMPERSAND, BLANK, BRACE, DIGIT_0, ESCAPES, LESS, NEWLINE, QUOTE
from soundpages.signs import begins_name, codes, is_digit, may_stand, name_sign
from soundpages.wording import Wording

# Stands where a byte is given back, for a character that is none.
NO_CHARACTER = -1

# How a block begins or ends, and how another template is used.
BRACE_PARTS = ("{?", "{!", "{*", "{/", "{>")


class Attribute:
    def __init__(self, name, wording):
        self.name = name
        self.wording = wording


class Tag:
    def __init__(self, name):
        self.name = name
        self.attributes = []
        self.alone = False


def has_two_of_one_name(attributes):
    return len(set([attribute.name for attribute in attributes])) < len(attributes)


# The name that a row is as a whole, or an empty text.
def whole_name(row):
    reader = Reader(row, False)
    name = reader.take_name()
    return name if reader.ended() else ""


class Reader:
    def __init__(self, row, with_holes):
        self.row = row
        self.at = 0
        self.with_holes = with_holes

    def ended(self):
        return self.at >= len(self.row)

    def sees(self, text):
        return self.row[self.at:self.at + len(text)] == codes(text)

    def sees_brace_part(self):
        if not self.with_holes or self.row[self.at] != BRACE:
            return False
        return any([self.sees(text) for text in BRACE_PARTS])

    def passes(self, text):
        if not self.sees(text):
            return False
        self.at += len(text)
        return True

    # Whether there were any.
    def pass_blanks(self):
        begin = self.at
        while not self.ended() and self.row[self.at] in (NEWLINE, BLANK):
            self.at += 1
        return self.at > begin

    # An empty text if no name begins here.
    def take_name(self):
        name = ""
        if self.ended() or not begins_name(self.row[self.at]):
            return name
        while len(name) < NAME_BYTES and not self.ended() and name_sign(self.row[self.at]) != "":
            name += name_sign(self.row[self.at])
            self.at += 1
        return name

    # A name with these before and behind it; an empty text if it isn't so.
    def take_name_between(self, before, behind):
        if not self.passes(before):
            return ""
        name = self.take_name()
        return name if self.passes(behind) else ""

    def take_character(self):
        byte = self.row[self.at]
        if byte == AMPERSAND:
            return self.take_reference()
        if byte == LESS or not may_stand(byte):
            return NO_CHARACTER
        self.at += 1
        return byte

    def take_reference(self):
        for byte in ESCAPES:
            if self.passes(ESCAPES[byte]):
                return byte
        if not self.passes("&#"):
            return NO_CHARACTER
        begin = self.at
        number = 0
        while not self.ended() and self.at < begin + 3 and is_digit(self.row[self.at]):
            number = number * 10 + self.row[self.at] - DIGIT_0
            self.at += 1
        if self.at == begin or not self.passes(";") or not may_stand(number):
            return NO_CHARACTER
        return number

    def take_brace(self, wording):
        if self.passes("{{"):
            wording.add_byte(BRACE)
            return True
        name = self.take_name_between("{", "}")
        if name == "":
            return False
        wording.add_hole(name)
        return True

    # Adds what begins here to the wording; False if that is neither a character nor a hole.
    def take_piece(self, wording):
        if self.with_holes and self.row[self.at] == BRACE:
            return self.take_brace(wording)
        byte = self.take_character()
        if byte == NO_CHARACTER:
            return False
        wording.add_byte(byte)
        return True

    def sees_end_of_text(self):
        return self.ended() or self.row[self.at] == LESS or self.sees_brace_part()

    def sees_end_of_value(self):
        return self.ended() or self.row[self.at] == QUOTE

    # The text's wording; None if something in it is wrong.
    def take_text(self):
        wording = Wording()
        while not self.sees_end_of_text():
            if not self.take_piece(wording):
                return None
        return wording

    # The value's wording, up to the quote and without it; None if something in it is wrong.
    def take_value(self):
        wording = Wording()
        while not self.sees_end_of_value():
            if not self.take_piece(wording):
                return None
        return wording

    def take_attribute(self):
        name = self.take_name()
        if name == "" or not self.passes("=\""):
            return None
        wording = self.take_value()
        if wording is None or not self.passes("\""):
            return None
        return Attribute(name, wording)

    # None if no element begins here.
    def take_opening(self):
        if not self.passes("<"):
            return None
        tag = Tag(self.take_name())
        if tag.name == "":
            return None
        while True:
            has_blanks = self.pass_blanks()
            tag.alone = self.passes("/>")
            if tag.alone or self.passes(">"):
                return tag
            attribute = self.take_attribute() if has_blanks else None
            if attribute is None:
                return None
            tag.attributes.append(attribute)

    # The element's name; an empty text if no element ends here.
    def take_closing(self):
        if not self.passes("</"):
            return ""
        name = self.take_name()
        self.pass_blanks()
        return name if self.passes(">") else ""
