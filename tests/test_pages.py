"""Data read strictly: what is a page and what isn't, what its characters stand for; the second list of corners."""

import unittest

from tests.helper import page

LONG_NAME = "abcdefghijklmn-0"


def told(d):
    """What stands in the data's x, written; or the refusal."""
    return page("{x}", d)


class Pages(unittest.TestCase):
    def test_pages(self):
        for d in ("", "x", "\n", " ~\x7f\x80\xff", '"', ">", "{", "}", "{{", "{x", "{?x}", "{/}", "=", "/", "]]>",
                  "&lt;&gt;&amp;&quot;",
                  "&#10;", "&#32;", "&#255;", "&#010;", "&#099;", "&#99;", "<a/>", "<a />", "<a\n \n/>", "<a></a>",
                  "<a ></a >",
                  '<a b=""/>', '<a b="" />', '<a  b="c"\nd="e">f</a>', '<a b=">"/>', '<a b="\n"/>', '<a b="{"/>',
                  '<a b="&lt;&#34;"/>',
                  "<a><b/><b></b>c</a>", "<a0-/>", "<a--/>", f"<{LONG_NAME}/>", f'<a {LONG_NAME}=""/>',
                  f"<{LONG_NAME}></{LONG_NAME}>",
                  '<a b="\'"/>', "<a>{</a>", "a<b/>c<d/>e"):
            self.assertEqual(page("ok", d), "ok", d)

    def test_no_pages(self):
        for d in ("<", "a<", "<a", "<a ", "<a/", "<a /", "<a/ >", "< a/>", "<a/x>", "<>", "</>", "</a>", "</ a>",
                  "<a></ a>", "<a></a",
                  "<a></a /", "<a></b>", "<a><b></a></b>", "<a></a></a>", "<a/></a>", "<A/>", "<0/>", "<-/>", "<aB/>",
                  "<a_/>", "<\xe4/>",
                  "<!-- -->", "<!a>", "<?a?>", f"<{LONG_NAME}1/>", f'<a {LONG_NAME}1=""/>',
                  f"<{LONG_NAME}></{LONG_NAME}1>", "<a></a b>",
                  '<a></a b="">', "<a b/>", "<a b=/>", "<a b=c/>", "<a b='c'/>", '<a b ="c"/>', '<a b= "c"/>',
                  '<a b="c"d="e"/>', '<ab="c"/>',
                  '<a b="c/>', '<a b="c"', '<a "c"/>', '<a ="c"/>', '<a b="<"/>', '<a b="&"/>', '<a b="&;"/>',
                  '<a b="\t"/>', '<a b="&#0;"/>',
                  '<a B="c"/>', '<a 0="c"/>', '<a\tb="c"/>', "<a\r/>", "\x00", "\t", "\r", "\x0b", "\x1f", "x\x00",
                  "&", "a&b", "&;", "&a;",
                  "&lt", "&lt ;", "&LT;", "&apos;", "&nbsp;", "&#;", "&#a;", "&#x20;", "&#1", "&#10", "&#0;", "&#00;",
                  "&#000;", "&#9;",
                  "&#11;", "&#31;", "&#256;", "&#300;", "&#999;", "&#0032;", "&#1000;", "&# 32;", "&#-1;", "<a>",
                  "<a><b>", "<a><a></a>"):
            self.assertEqual(page("ok", d), -71, d)

    def test_what_characters_stand_for(self):
        self.assertEqual(told("<x>&lt;&gt;&amp;&quot;</x>"), "&lt;&gt;&amp;&quot;")
        self.assertEqual(told("<x>&amp;lt;&amp;#60;</x>"), "&amp;lt;&amp;#60;")
        self.assertEqual(told("<x>&#60;&#062;&#38;&#34;&#10;&#010;&#65;&#255;</x>"), "&lt;&gt;&amp;&quot;\n\nA\xff")
        self.assertEqual(told('<x>">{}\n\x7f</x>'), "&quot;&gt;{}\n\x7f")

    def test_every_byte(self):
        for number in range(256):
            good = number == 10 or number >= 32
            sign = chr(number)
            meant = {"<": "&lt;", ">": "&gt;", "&": "&amp;", '"': "&quot;"}.get(sign, sign)
            self.assertEqual(told(f"<x>&#{number};</x>"), meant if good else -71)
            self.assertEqual(told(f"<x>&#{number:03};</x>"), meant if good else -71)
            self.assertEqual(page("", f'<x y="&#{number};"/>'), "" if good else -71)
            self.assertEqual(page(f"&#{number};") if good else -71, meant if good else -71)
            if sign not in "<&":
                self.assertEqual(told(f"<x>{sign}</x>"), meant if good else -71)
                if sign != '"':
                    self.assertEqual(page("", f'<x y="{sign}"/>'), "" if good else -71)

    def test_which_one_is_ended(self):
        self.assertEqual(told("<x>1<x>2</x>3</x>4"), "123")
        self.assertEqual(told("<y/>1<x/>2"), "")
        self.assertEqual(page("{*x}[{y}]{/}", "<x/><y>1</y><x><y/></x>"), "[1][]")


class Corners(unittest.TestCase):
    def test_no_bytes(self):
        self.assertEqual(page("ok", ""), "ok")

    def test_an_element_alone_and_a_pair(self):
        for d in ("<x/>", "<x></x>"):
            self.assertEqual(page("{?x}1{/}{*x}2{/}[{x}]", d), "12[]")
        for t in ("<x/>", "<x></x>"):
            self.assertEqual(page(t), "<x></x>")

    def test_a_newline_by_its_number(self):
        self.assertEqual(told("<x>&#10;</x>"), "\n")
        self.assertEqual(page("&#10;"), "\n")

    def test_numbers_of_no_byte(self):
        for d in ("&#256;", "&#0;", "&;"):
            self.assertEqual(told(f"<x>{d}</x>"), -71)

    def test_less_in_a_value(self):
        self.assertEqual(told('<a b="<">'), -71)
        self.assertEqual(told('<a b="<"></a>'), -71)

    def test_two_attributes_of_one_name(self):
        self.assertEqual(told('<a b="&lt;" b="">'), -22)
        self.assertEqual(told('<a b="&lt;" b=""></a>'), -22)

    def test_greater_in_a_text(self):
        self.assertEqual(told("<x>></x>"), "&gt;")
        self.assertEqual(told(">"), "")

    def test_long_names(self):
        name = "n" * 16
        self.assertEqual(page("{" + name + "}", f"<{name}>1</{name}>"), "1")
        self.assertEqual(page(f'<{name} {name}=""/>'), f'<{name} {name}=""></{name}>')
        self.assertEqual(told(f"<{name}n/>"), -71)
        self.assertEqual(told(f'<a {name}n=""/>'), -71)

    def test_depth(self):
        self.assertEqual(told("<x>" * 32 + "1" + "</x>" * 32), "1")
        self.assertEqual(told("<x>" * 33 + "1" + "</x>" * 33), -28)

    def test_marks(self):
        self.assertEqual(told("<x>1</x>" + "<a/>" * 1022 + "2"), "1")
        self.assertEqual(told("<x>1</x>" + "<a/>" * 1022 + "2<b></b>"), -28)

    def test_a_closing_where_nothing_is_begun(self):
        self.assertEqual(told("</x>"), -71)
        self.assertEqual(told("<x>1</x></x>"), -71)

    def test_blanks_in_closings(self):
        self.assertEqual(told("<x>1</x \n>"), "1")
        self.assertEqual(told("<x>1</ x>"), -71)
        self.assertEqual(told("< x>1</x>"), -71)


if __name__ == "__main__":
    unittest.main()
