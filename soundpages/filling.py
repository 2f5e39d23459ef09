"""Going through a template with data, part by part."""

from soundpages.limits import STEPS
from soundpages.oneform import OneForm
from soundpages.rounds import Rounds
from soundpages.signs import begins_with, codes
from soundpages.template import BLOCK_END, BLOCKS, CLOSING, FOR_EACH, IF_THERE, OPENING, USE

LEADING_NAMES = ("href", "src", "action", "formaction", "poster", "cite")


def leads_well(value):
    if begins_with(value, "https://"):
        return True
    return begins_with(value, "/") and not begins_with(value, "//")


# A block that comes again for each of the row.
class Loop:
    def __init__(self, row):
        self.row = row
        self.at = 0

    def current(self):
        return self.row[self.at]


# Where it goes on behind a use.
class Return:
    def __init__(self, parts, at):
        self.parts = parts
        self.at = at


class Filling:
    def __init__(self, templates, data):
        self.templates = templates
        self.rounds = Rounds(data)
        self.form = OneForm()
        self.parts = []
        self.at = 0
        self.steps = 0
        # Those that are still unended, the innermost last.
        self.loops = []
        self.returns = []

    def too_many_steps(self):
        return self.steps > STEPS

    def run(self, name):
        self.parts = self.templates[name].parts
        while not self.too_many_steps() and not self.finished():
            self.go_on()

    def finished(self):
        return self.at == len(self.parts) and len(self.returns) == 0

    def go_on(self):
        if self.at == len(self.parts):
            self.end_use()
            return
        part = self.parts[self.at]
        self.at += 1
        if part.kind == BLOCK_END:
            self.end_block(part)
            return
        self.steps += 1
        if part.kind == USE:
            self.begin_use(part)
        elif part.kind == FOR_EACH:
            self.begin_loop(part)
        elif part.kind in BLOCKS:
            self.begin_choice(part)
        elif not self.form.too_much:
            self.give(part)

    def begin_use(self, part):
        self.returns.append(Return(self.parts, self.at))
        self.parts = self.templates[part.name].parts
        self.at = 0

    def end_use(self):
        back = self.returns.pop()
        self.parts = back.parts
        self.at = back.at

    def begin_choice(self, part):
        is_there = len(self.rounds.innermost(part.name)) > 0
        if is_there != (part.kind == IF_THERE):
            self.at = part.partner + 1

    def begin_loop(self, part):
        row = self.rounds.innermost(part.name)
        # With nothing in it the block is passed by: its rounds would take time, but no steps that end it.
        if len(row) == 0 or self.at == part.partner:
            self.at = part.partner + 1
            return
        self.loops.append(Loop(row))
        self.rounds.enter(row[0])

    def end_block(self, part):
        if self.parts[part.partner].kind != FOR_EACH:
            return
        loop = self.loops[-1]
        self.rounds.leave(loop.current())
        loop.at += 1
        if loop.at == len(loop.row):
            self.loops.pop()
            return
        self.rounds.enter(loop.current())
        self.at = part.partner + 1

    def give(self, part):
        if part.kind == OPENING:
            attributes = [(attribute.name, self.value_of(attribute)) for attribute in part.attributes]
            self.form.add_opening(part.name, attributes)
        elif part.kind == CLOSING:
            self.form.add_closing(part.name)
        else:
            self.form.add_text(part.wording.fill_in(self.rounds))

    def value_of(self, attribute):
        value = attribute.wording.fill_in(self.rounds)
        if attribute.wording.has_hole() and attribute.name in LEADING_NAMES and not leads_well(value):
            return codes("#")
        return value
