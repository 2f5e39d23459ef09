"""Calls told in numbers, and answers told back."""

from soundpages.maker import answers


def row(text):
    data = text.encode("latin-1") if isinstance(text, str) else bytes(text)
    return [len(data)] + list(data)


START = [0]


def put(name, t):
    return [1] + row(name) + row(t)


def take(name):
    return [2] + row(name)


def fill(name, d):
    return [3] + row(name) + row(d)


def attributes(number):
    """So many attributes of an element, each of another name."""
    return "".join(f' a{count}=""' for count in range(number))


def line(*calls):
    return [number for call in calls for number in call]


def split(given):
    """Each answer: a number, or a page as a text."""
    told = []
    at = 0
    while at < len(given):
        size = given[at]
        answer = given[at + 1:at + 1 + size]
        if len(answer) != size:
            raise AssertionError("an answer breaks off")
        at += 1 + size
        if answer[0] == 0:
            if size != 2:
                raise AssertionError("form 0 holds one number")
            told.append(answer[1])
        else:
            if answer[0] != 1 or answer[1] != size - 2:
                raise AssertionError("form 1 holds a count and so many bytes")
            told.append(bytes(answer[2:]).decode("latin-1"))
    return told


def ask(*calls):
    """The answers to these calls behind a tp_start."""
    return split(answers(line(START, *calls)))[1:]


def put_alone(t):
    """What tp_put of t answers on a new object."""
    return ask(put("t", t))[0]


def page(t, d="", **others):
    """What tp_fill answers of the template t with the data d; others are put ahead of it."""
    ahead = [put(name, text) for name, text in others.items()]
    told = ask(*ahead, put("t", t), fill("t", d))
    if told[:-1] != list(range(1, len(told))):
        raise AssertionError(f"a template was refused: {told[:-1]}")
    return told[-1]
