"""Templates: their parts, and what is refused of them."""

from soundpages.limits import ATTRIBUTES, DEPTH, TEMPLATE_PARTS
from soundpages.reader import Reader, has_two_of_one_name
from soundpages.refusals import HOLE_FORBIDDEN, NOT_THERE, TOO_MUCH, TWO_OF_ONE_NAME

OPENING = "opening"
CLOSING = "closing"
TEXT = "text"
IF_THERE = "{?"
FOR_EACH = "{*"
BLOCK_END = "{/"
USE = "{>"

BLOCKS = ("{?", "{!", "{*")

# Neither a hole nor a use lies in these, no hole in their values.
GUARDED_NAMES = ("script", "style", "iframe", "object", "embed")
GUARDED_ATTRIBUTES = ("style", "srcdoc")
GUARDED_BEGINNING = "on"


class Part:
    def __init__(self, kind, name):
        self.kind = kind
        self.name = name
        # Of an opening.
        self.attributes = []
        # Of a text.
        self.wording = None
        # Where the other end is, of an opening or closing, of a block's beginning or end.
        self.partner = 0


class Template:
    def __init__(self):
        self.parts = []
        self.depth = 0
        # Where those begin that are still unended, the innermost last.
        self.unended = []

    def begin_part(self, part):
        self.unended.append(len(self.parts))
        self.parts.append(part)
        self.depth = max(self.depth, len(self.unended))

    def end_part(self, part):
        part.partner = self.unended.pop()
        begun = self.parts[part.partner]
        begun.partner = len(self.parts)
        self.parts.append(part)

    def is_in_element(self, name):
        if len(self.unended) == 0:
            return False
        part = self.parts[self.unended[-1]]
        return part.kind == OPENING and part.name == name

    def is_in_block(self):
        return len(self.unended) > 0 and self.parts[self.unended[-1]].kind in BLOCKS

    def uses(self, name):
        return any([part.kind == USE and part.name == name for part in self.parts])


# This one and the others below it add a part; they are False if what begins here is none.
def read_opening(reader, template):
    tag = reader.take_opening()
    if tag is None:
        return False
    part = Part(OPENING, tag.name)
    part.attributes = tag.attributes
    template.begin_part(part)
    if tag.alone:
        template.end_part(Part(CLOSING, tag.name))
    return True


def read_closing(reader, template):
    name = reader.take_closing()
    if name == "" or not template.is_in_element(name):
        return False
    template.end_part(Part(CLOSING, name))
    return True


def read_text(reader, template):
    part = Part(TEXT, "")
    part.wording = reader.take_text()
    template.parts.append(part)
    return part.wording is not None


def read_brace_part(reader, template):
    if reader.passes("{/}"):
        if not template.is_in_block():
            return False
        template.end_part(Part(BLOCK_END, ""))
        return True
    for kind in BLOCKS:
        if reader.sees(kind):
            part = Part(kind, reader.take_name_between(kind, "}"))
            template.begin_part(part)
            return part.name != ""
    part = Part(USE, reader.take_name_between(USE, "}"))
    template.parts.append(part)
    return part.name != ""


def read_part(reader, template):
    if reader.sees("</"):
        return read_closing(reader, template)
    if reader.sees("<"):
        return read_opening(reader, template)
    if reader.sees_brace_part():
        return read_brace_part(reader, template)
    return read_text(reader, template)


# None if it's no template.
def read_template(row):
    template = Template()
    reader = Reader(row, True)
    while not reader.ended():
        if not read_part(reader, template):
            return None
    return template if len(template.unended) == 0 else None


def has_twin_attributes(template):
    return any([has_two_of_one_name(part.attributes) for part in template.parts])


def is_too_much(template):
    if template.depth > DEPTH or len(template.parts) > TEMPLATE_PARTS:
        return True
    return any([len(part.attributes) > ATTRIBUTES for part in template.parts])


def is_guarded_attribute(name):
    return name in GUARDED_ATTRIBUTES or name.startswith(GUARDED_BEGINNING)


# Whether the part has a hole or is a use, where there may be none; guarded tells that it lies in a guarded element.
def breaks_guard(part, guarded):
    if part.kind == USE or (part.kind == TEXT and part.wording.has_hole()):
        return guarded
    values_guarded = guarded or part.name in GUARDED_NAMES
    for attribute in part.attributes:
        if attribute.wording.has_hole() and (values_guarded or is_guarded_attribute(attribute.name)):
            return True
    return False


def has_forbidden_hole(template):
    guards = 0
    for part in template.parts:
        if breaks_guard(part, guards > 0):
            return True
        if part.name in GUARDED_NAMES and part.kind == OPENING:
            guards += 1
        if part.name in GUARDED_NAMES and part.kind == CLOSING:
            guards -= 1
    return False


# The refusal, or 0; there are the templates that may be used.
def refusal_of(template, there):
    if has_twin_attributes(template):
        return TWO_OF_ONE_NAME
    if is_too_much(template):
        return TOO_MUCH
    if has_forbidden_hole(template):
        return HOLE_FORBIDDEN
    if any([part.kind == USE and part.name not in there for part in template.parts]):
        return NOT_THERE
    return 0
