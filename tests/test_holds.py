"""What holds of every page that tp_fill answers: a to d, over data that would break it if they could."""

import random
import re
import unittest

from tests.helper import page
from tests.oracle import LEADING, Giver, escaped, merged, read_page, read_template

# As what the data's texts and values are meant; they are written into the data in several ways.
HOSTILE = [
    "<script>alert(1)</script>", "</p>", "<", ">", "&", '"', "'", "{", "}", "{{", "{x}", "{?x}{/}", "{*x}", "{/}",
    "{>u}", "{", "{!x}",
    "&lt;", "&#60;", "&amp;lt;", "&quot;", '" onclick="x', '"><script>', "javascript:alert(1)", "JaVaScRiPt:x",
    "//evil", "///", "/ok",
    "https://ok", "http://no", "data:text/html,x", " https://x", "#", "", "\n", "<!--", "-->", "<![CDATA[", "]]>",
    "\xff\x80", "=", "/>",
    "<x>", "</x>", "{y}", "&", ";", "&#N;", "&#10;", "<p", 'a="b"', "\x7f",
]

TEMPLATE = (
    '<p id="{x}" title="-{y}-{x}-"><a href="{x}" cite="/{y}">{x}</a>{?y}<b>{y}</b>{/}{!y}<i>none</i>{/}'
    '{*z}<li src="{n}" class="{{{n}}">{n}{>u}</li>{/}{{x}</p><script>x &lt; y</script>'
    '<a href="javascript:own" onclick="own"/>'
)
USED = '<u action="{n}" value="{y}">{y}&amp;{n}</u>'


def written_plainly(text):
    return escaped(text)


def written_by_numbers(text):
    return "".join(f"&#{ord(sign)};" for sign in text)


def written_as_it_is(text):
    return text.replace("&", "&amp;").replace("<", "&lt;")


WAYS = (written_plainly, written_by_numbers, written_as_it_is)


def data_of(texts, way):
    x, y, n, m, attr = texts
    value = way(attr).replace('"', "&quot;")
    return (f'<x at="{value}">{way(x)}</x><y>{way(y)}</y><z><n>{way(n)}</n></z>'
            f"<z><n><script>{way(m)}</script></n><y>{way(x)}</y></z><z/>{way(attr)}")


def marks_of(text):
    """The marks that are read of a page, by the tests' own reader."""
    marks = []

    def walk(node):
        for inner in node.inner:
            if inner.kind == "text":
                marks.append(("text", inner.text()))
            else:
                marks.append(("opening", inner.name, [(name, "".join(value)) for name, value in inner.attrs]))
                walk(inner)
                marks.append(("closing", inner.name))

    walk(read_page(text))
    return marks


def marks_meant(t, d, **others):
    giver = Giver({name: read_template(text)[0] for name, text in others.items()})
    giver.go(read_template(t)[0].inner, [read_page(d)])
    return merged(giver.marks)


def bones(marks):
    """What is left without texts and values."""
    out = []
    for mark in marks:
        if mark[0] == "opening":
            out.append((mark[1], [name for name, value in mark[2]]))
        elif mark[0] == "closing":
            out.append(mark)
    return out


class WhatHolds(unittest.TestCase):
    def setUp(self):
        chooser = random.Random(1)
        self.texts = [[text] * 5 for text in HOSTILE]
        for time in range(150):
            self.texts.append(["".join(chooser.choices(HOSTILE, k=chooser.randrange(4))) for count in range(5)])

    def filled(self, texts, way):
        given = page(TEMPLATE, data_of(texts, way), u=USED)
        self.assertIsInstance(given, str, texts)
        return given

    def test_a_just_what_is_meant(self):
        for texts in self.texts:
            for way in WAYS:
                given = self.filled(texts, way)
                self.assertEqual(marks_of(given), marks_meant(TEMPLATE, data_of(texts, way), u=USED), texts)

    def test_a_the_one_form_is_its_own(self):
        for texts in self.texts:
            given = self.filled(texts, written_plainly)
            self.assertLessEqual(set(re.findall("&[^;]*;", given)), {"&lt;", "&gt;", "&amp;", "&quot;"})
            # A page without { or } is a template that means itself.
            if not set("{}") & set(given):
                self.assertEqual(page(given), given)
            self.assertEqual(page(given.replace("{", "{{")), given)

    def test_a_texts_come_back(self):
        for text in HOSTILE:
            for way in WAYS:
                given = page('<p id="{x}">{x}</p>', f"<x>{way(text)}</x>")
                meant = [("opening", "p", [("id", text)])] + [("text", text)] * (text != "") + [("closing", "p")]
                self.assertEqual(marks_of(given), meant)

    def test_however_they_are_written(self):
        for texts in self.texts:
            self.assertEqual(len({self.filled(texts, way) for way in WAYS}), 1, texts)

    def test_b_texts_become_nothing_else(self):
        usual = bones(marks_of(self.filled(["1"] * 5, written_plainly)))
        for texts in self.texts:
            self.assertEqual(bones(marks_of(self.filled(texts, written_plainly))), usual, texts)

    def test_c_names_are_the_templates(self):
        d = '<evil onload="x"><script>1</script></evil><x><iframe src="y"/>2</x><script/><onclick>3</onclick>'
        for t in ('<p id="{x}">{x}{evil}{onclick}</p>', "{*x}<b>{iframe}</b>{/}", "{*evil}{script}{*script}<i/>{/}{/}"):
            names = {mark[1] for mark in marks_of(page(t, d)) if mark[0] != "text"}
            self.assertLessEqual(names, {"p", "b", "i"})
        for texts in self.texts:
            for mark in marks_of(self.filled(texts, written_as_it_is)):
                if mark[0] == "opening":
                    self.assertIn(mark[1], ("p", "a", "b", "i", "li", "u", "script"))
                    self.assertLessEqual({name for name, value in mark[2]},
                                         {"id", "title", "href", "cite", "src", "class", "action", "value", "onclick"})

    def test_d_where_it_leads(self):
        own = ("opening", "a", [("href", "javascript:own"), ("onclick", "own")])
        for texts in self.texts:
            marks = marks_of(self.filled(texts, written_plainly))
            self.assertEqual(marks.count(own), 1)
            marks.remove(own)
            for mark in marks:
                if mark[0] == "opening":
                    for name, value in mark[2]:
                        if name in LEADING:
                            self.assertRegex(value, r"\A(?:#\Z|https://|/(?!/))")
            start = marks.index(("opening", "script", []))
            self.assertEqual(marks[start + 1:start + 3], [("text", "x < y"), ("closing", "script")])


if __name__ == "__main__":
    unittest.main()
