"""The calls on one object, told in numbers, and their answers."""

from soundpages.filling import Filling
from soundpages.limits import TEMPLATE_BYTES, TEMPLATES
from soundpages.pagedata import read_data
from soundpages.reader import whole_name
from soundpages.refusals import IN_USE, MALFORMED, NOT_THERE, THERE_ALREADY, TOO_MANY_STEPS, TOO_MUCH, WRONG_NAME
from soundpages.template import read_template, refusal_of

TP_START = 0
TP_PUT = 1
TP_TAKE = 2

# The forms of answers.
NUMBER = 0
PAGE = 1


class Maker:
    def __init__(self):
        self.templates = {}

    def start(self):
        self.templates = {}
        return 0

    def put(self, name, row):
        if name == "":
            return WRONG_NAME
        if name in self.templates:
            return THERE_ALREADY
        if len(self.templates) >= TEMPLATES or len(row) > TEMPLATE_BYTES:
            return TOO_MUCH
        template = read_template(row)
        if template is None:
            return MALFORMED
        refusal = refusal_of(template, self.templates)
        if refusal < 0:
            return refusal
        self.templates[name] = template
        return len(self.templates)

    def take(self, name):
        if name not in self.templates:
            return NOT_THERE
        if any([template.uses(name) for template in self.templates.values()]):
            return IN_USE
        self.templates.pop(name)
        return len(self.templates)

    def fill(self, name, row):
        if name not in self.templates:
            return [NUMBER, NOT_THERE]
        data = read_data(row)
        if data.refusal < 0:
            return [NUMBER, data.refusal]
        filling = Filling(self.templates, data)
        filling.run(name)
        if filling.too_many_steps():
            return [NUMBER, TOO_MANY_STEPS]
        if filling.form.too_much:
            return [NUMBER, TOO_MUCH]
        return [PAGE, len(filling.form.row)] + filling.form.row


# The numbers that are handed in, taken one behind another.
class Line:
    def __init__(self, numbers):
        self.numbers = numbers
        self.at = 0

    def has_ended(self):
        return self.at >= len(self.numbers)

    def take_number(self):
        number = self.numbers[self.at]
        self.at += 1
        return number

    def take_row(self):
        begin = self.at + 1
        self.at = begin + self.numbers[self.at]
        return self.numbers[begin:self.at]


def answer_of(maker, line):
    call = line.take_number()
    if call == TP_START:
        return [NUMBER, maker.start()]
    name = whole_name(line.take_row())
    if call == TP_TAKE:
        return [NUMBER, maker.take(name)]
    row = line.take_row()
    if call == TP_PUT:
        return [NUMBER, maker.put(name, row)]
    return maker.fill(name, row)


def answers(calls):
    maker = Maker()
    line = Line(calls)
    given = []
    while not line.has_ended():
        answer = answer_of(maker, line)
        given.append(len(answer))
        given.extend(answer)
    return given
