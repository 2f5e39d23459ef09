"""The document once more, as plainly as can be: by regular expressions and by recursion, without a thought of cost."""

import re

NAME = "[a-z][a-z0-9-]{0,15}"
BLANKS = "[ \n]+"
ENTITY = "&(?:lt|gt|amp|quot);|&#[0-9]{1,3};"
PLAIN = "[^<&\"{\x00-\x09\x0b-\x1f]"
HOLE = "{{|{" + NAME + "}"

PAGE_VALUE = f"(?:{PLAIN}|{{|{ENTITY})*"
PAGE_TEXT = f"(?:{PLAIN}|{{|\"|{ENTITY})+"
TEMPLATE_VALUE = f"(?:{PLAIN}|{HOLE}|{ENTITY})*"
TEMPLATE_TEXT = f"(?:{PLAIN}|{HOLE}|\"|{ENTITY})+"

CLOSING = re.compile(f"</({NAME})[ \n]*>")
BLOCK = re.compile("{([?!*])(" + NAME + ")}")
USE = re.compile("{>(" + NAME + ")}")
PIECE = re.compile(f"{HOLE}|{ENTITY}|.", re.S)
ENTITIES = {"&lt;": "<", "&gt;": ">", "&amp;": "&", "&quot;": '"'}
GUARDED = ("script", "style", "iframe", "object", "embed")
LEADING = ("href", "src", "action", "formaction", "poster", "cite")


class Refused(Exception):
    def __init__(self, number):
        super().__init__(number)
        self.number = number


class Node:
    def __init__(self, kind, name="", attrs=(), pieces=()):
        self.kind = kind
        self.name = name
        self.attrs = attrs
        self.pieces = pieces
        self.inner = []

    def text(self):
        if self.kind == "text":
            return "".join(piece for piece in self.pieces)
        return "".join(node.text() for node in self.inner)


def pieces_of(text, holes):
    """A list of single signs and of holes (as tuples)."""
    pieces = []
    for part in PIECE.findall(text):
        if part in ENTITIES:
            pieces.append(ENTITIES[part])
        elif part.startswith("&#"):
            number = int(part[2:-1])
            if number > 255 or (number < 32 and number != 10):
                raise Refused(-71)
            pieces.append(chr(number))
        elif holes and part == "{{":
            pieces.append("{")
        elif holes and len(part) > 1:
            pieces.append((part[1:-1],))
        else:
            pieces.extend(part)
    return pieces


def opening_at(text, at, holes):
    value = TEMPLATE_VALUE if holes else PAGE_VALUE
    attr = f'{BLANKS}({NAME})="({value})"'
    whole = re.compile(f'<({NAME})((?:{BLANKS}{NAME}="{value}")*)[ \n]*(/?)>')
    found = whole.match(text, at)
    if not found:
        raise Refused(-71)
    attrs = [(name, pieces_of(value, holes)) for name, value in re.findall(attr, found.group(2))]
    return Node("element", found.group(1), attrs), found.group(3) == "/", found.end()


def twice(node):
    names = [name for name, value in node.attrs]
    return len(set(names)) < len(names)


def read_page(text):
    if len(text) > 16384:
        raise Refused(-28)
    root = Node("page")
    path = [root]
    at = marks = 0
    while at < len(text):
        marks += 1
        if text.startswith("</", at):
            found = CLOSING.match(text, at)
            if not found or len(path) == 1 or path[-1].name != found.group(1):
                raise Refused(-71)
            path.pop()
            at = found.end()
        elif text[at] == "<":
            node, alone, at = opening_at(text, at, False)
            if twice(node):
                raise Refused(-22)
            if len(node.attrs) > 8 or len(path) > 32:
                raise Refused(-28)
            path[-1].inner.append(node)
            if alone:
                marks += 1
            else:
                path.append(node)
        else:
            end = text.find("<", at)
            end = len(text) if end < 0 else end
            if not re.fullmatch(PAGE_TEXT, text[at:end]):
                raise Refused(-71)
            path[-1].inner.append(Node("text", pieces=pieces_of(text[at:end], False)))
            at = end
        if marks > 2048:
            raise Refused(-28)
    if len(path) > 1:
        raise Refused(-71)
    return root


def read_template(text):
    """The parts as one tree, and how many and how deep they are."""
    root = Node("page")
    path = [root]
    at = parts = depth = 0
    while at < len(text):
        parts += 1
        begun = None
        block, use = BLOCK.match(text, at), USE.match(text, at)
        if text.startswith("</", at):
            found = CLOSING.match(text, at)
            if not found or path[-1].kind != "element" or path[-1].name != found.group(1):
                raise Refused(-71)
            path.pop()
            at = found.end()
        elif text[at] == "<":
            begun, alone, at = opening_at(text, at, True)
            if alone:
                parts += 1
                path[-1].inner.append(begun)
                depth = max(depth, len(path))
                begun = None
        elif block:
            begun = Node(block.group(1), block.group(2))
            at = block.end()
        elif use:
            path[-1].inner.append(Node(">", use.group(1)))
            at = use.end()
        elif text.startswith("{/}", at):
            if path[-1].kind not in "?!*":
                raise Refused(-71)
            path.pop()
            at += 3
        else:
            found = re.compile(TEMPLATE_TEXT).match(text, at)
            if not found:
                raise Refused(-71)
            path[-1].inner.append(Node("text", pieces=pieces_of(found.group(), True)))
            at = found.end()
        if begun:
            path[-1].inner.append(begun)
            path.append(begun)
            depth = max(depth, len(path) - 1)
    if len(path) > 1:
        raise Refused(-71)
    return root, parts, depth


def all_nodes(root):
    nodes = []
    waiting = [root]
    while waiting:
        node = waiting.pop()
        nodes.append(node)
        waiting.extend(node.inner)
    return nodes


def holed(pieces):
    return any(isinstance(piece, tuple) for piece in pieces)


def forbidden(node):
    for name, value in node.attrs:
        if holed(value) and (name in ("style", "srcdoc") or name.startswith("on") or node.name in GUARDED):
            return True
    if node.kind == "element" and node.name in GUARDED:
        for inner in all_nodes(node)[1:]:
            if inner.kind == ">" or holed(inner.pieces) or any(holed(value) for name, value in inner.attrs):
                return True
    return False


class Oracle:
    def start(self):
        self.templates = {}
        return 0

    def put(self, name, t):
        try:
            return self.try_put(name, t)
        except Refused as refused:
            return refused.number

    def try_put(self, name, t):
        if not re.fullmatch(NAME, name):
            return -22
        if name in self.templates:
            return -17
        if len(self.templates) == 32 or len(t) > 8192:
            return -28
        root, parts, depth = read_template(t)
        nodes = all_nodes(root)
        if any(twice(node) for node in nodes):
            return -22
        if parts > 1024 or depth > 32 or any(len(node.attrs) > 8 for node in nodes):
            return -28
        if any(forbidden(node) for node in nodes):
            return -13
        if any(node.kind == ">" and node.name not in self.templates for node in nodes):
            return -2
        self.templates[name] = root
        return len(self.templates)

    def take(self, name):
        if name not in self.templates:
            return -2
        for root in self.templates.values():
            if any(node.kind == ">" and node.name == name for node in all_nodes(root)):
                return -16
        del self.templates[name]
        return len(self.templates)

    def fill(self, name, d):
        if name not in self.templates:
            return -2
        try:
            data = read_page(d)
            giver = Giver(self.templates)
            giver.go(self.templates[name].inner, [data])
        except Refused as refused:
            return refused.number
        return written(giver.marks)


def merged(marks):
    out = []
    for mark in marks:
        if mark[0] == "text" and out and out[-1][0] == "text":
            out[-1] = ("text", out[-1][1] + mark[1])
        elif mark != ("text", ""):
            out.append(mark)
    return out


def escaped(text):
    return text.replace("&", "&amp;").replace("<", "&lt;").replace(">", "&gt;").replace('"', "&quot;")


def written(marks):
    marks = merged(marks)
    depth = deepest = 0
    out = ""
    for mark in marks:
        if mark[0] == "text":
            out += escaped(mark[1])
        elif mark[0] == "closing":
            depth -= 1
            out += f"</{mark[1]}>"
        else:
            depth += 1
            deepest = max(depth, deepest)
            attrs = "".join(f' {name}="{escaped(value)}"' for name, value in mark[2])
            out += f"<{mark[1]}{attrs}>"
    if len(marks) > 2048 or deepest > 32 or len(out) > 16384:
        return -28
    return out


class Giver:
    def __init__(self, templates):
        self.templates = templates
        self.marks = []
        self.gone = 0

    def count(self):
        self.gone += 1
        if self.gone > 20000:
            raise Refused(-62)

    def find(self, name, rounds):
        """Those of that name in the innermost round in which one stands; rounds with the innermost first."""
        for there in rounds:
            found = [node for node in there.inner if node.kind == "element" and node.name == name]
            if found:
                return found
        return []

    def filled(self, pieces, rounds):
        out = ""
        for piece in pieces:
            if isinstance(piece, tuple):
                found = self.find(piece[0], rounds)
                out += found[0].text() if found else ""
            else:
                out += piece
        return out

    def value(self, name, pieces, rounds):
        value = self.filled(pieces, rounds)
        if holed(pieces) and name in LEADING and not re.match("https://|/(?!/)", value):
            return "#"
        return value

    def go(self, nodes, rounds):
        for node in nodes:
            self.count()
            if node.kind == "text":
                self.marks.append(("text", self.filled(node.pieces, rounds)))
            elif node.kind == "element":
                attrs = [(name, self.value(name, pieces, rounds)) for name, pieces in node.attrs]
                self.marks.append(("opening", node.name, attrs))
                self.go(node.inner, rounds)
                self.count()
                self.marks.append(("closing", node.name))
            elif node.kind == ">":
                self.go(self.templates[node.name].inner, rounds)
            elif node.kind == "*":
                for found in self.find(node.name, rounds):
                    self.go(node.inner, [found] + rounds)
            elif bool(self.find(node.name, rounds)) == (node.kind == "?"):
                self.go(node.inner, rounds)
