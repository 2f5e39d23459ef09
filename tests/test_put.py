"""tp_put and tp_take: what is a template, each refusal by itself, and which one comes first."""

import unittest

from tests.helper import ask, attributes, fill, put, put_alone, take

LONG_NAME = "abcdefghijklmn-0"


def deep(number):
    """Elements and blocks in turn."""
    begins = ["<a>", "{?b}", "{!b}", "{*b}"]
    ends = ["</a>", "{/}", "{/}", "{/}"]
    picks = [count % 4 for count in range(number)]
    return "".join(begins[pick] for pick in picks) + "".join(ends[pick] for pick in reversed(picks))


class Names(unittest.TestCase):
    def test_names(self):
        for name in ("a", "z", "a-", "a0", "x9-", LONG_NAME, "a" * 16):
            self.assertEqual(ask(put(name, "")), [1], name)

    def test_no_names(self):
        for name in ("", "A", "0", "-", "-a", "9a", "aB", "a b", " a", "a ", "a_", "a.", "a\n", "\xe4", "a{", "a\x00",
                     LONG_NAME + "a", "a" * 17, "`", "a`", "{", "a/", "a:"):
            self.assertEqual(ask(put(name, "")), [-22], name)

    def test_the_same_name(self):
        self.assertEqual(ask(put("a", "1"), put("a", "2"), put("b", ""), fill("a", "")), [1, -17, 2, "1"])


class Sizes(unittest.TestCase):
    def test_32_templates(self):
        calls = [put(f"t{count}", "") for count in range(33)]
        self.assertEqual(ask(*calls), list(range(1, 33)) + [-28])

    def test_32_templates_and_one_taken(self):
        calls = [put(f"t{count}", "") for count in range(32)]
        told = ask(*calls, put("x", ""), take("t5"), put("x", ""), put("y", ""))
        self.assertEqual(told[32:], [-28, 31, 32, -28])

    def test_bytes(self):
        for count in (8191, 8192):
            self.assertEqual(put_alone("x" * count), 1)
        for count in (8193, 8194, 8200):
            self.assertEqual(put_alone("x" * count), -28)

    def test_attributes(self):
        for text in ("<a{}/>", "<a{}></a>", "<b><a{}/></b>", "{{?x}}<a{}/>{{/}}"):
            self.assertEqual(put_alone(text.format(attributes(8))), 1)
            self.assertEqual(put_alone(text.format(attributes(9))), -28)

    def test_depth(self):
        self.assertEqual(put_alone(deep(32)), 1)
        self.assertEqual(put_alone(deep(33)), -28)
        for begin, end in (("<a>", "</a>"), ("{?a}", "{/}"), ("{!a}", "{/}"), ("{*a}", "{/}")):
            self.assertEqual(put_alone(begin * 32 + end * 32), 1)
            self.assertEqual(put_alone(begin * 33 + end * 33), -28)
            self.assertEqual(put_alone(begin * 31 + "<b/>" + end * 31), 1)
            self.assertEqual(put_alone(begin * 32 + "<b/>" + end * 32), -28)
            self.assertEqual(put_alone(begin * 32 + "text {hole}" + end * 32), 1)
        self.assertEqual(put_alone((deep(32)) * 3), 1)
        self.assertEqual(ask(put("u", ""), put("t", deep(32).replace("</a>", "{>u}</a>"))), [1, 2])

    def test_parts(self):
        for begin, least in (("<a/>", 2), ("<a></a>", 2), ("<a>b</a>", 3), ("{?a}{/}", 2), ("{!a}b{/}", 3),
                             ("{*a}{/}", 2),
                             ("{>u}", 1), ("b<a/>", 3), ("{x}{y}{{<a/>", 3)):
            count = 1024 // least
            rest = "{>u}" * (1024 - count * least)
            self.assertEqual(ask(put("u", ""), put("t", begin * count + rest)), [1, 2], begin)
            self.assertEqual(ask(put("u", ""), put("t", begin * count + rest + "{>u}")), [1, -28], begin)

    def test_a_text_with_its_holes_is_one_part(self):
        self.assertEqual(put_alone("<a/>" * 511 + "x{a}y{b}{{z&lt;}" + "{?b}"), -71)
        self.assertEqual(put_alone("<a/>" * 511 + "x{a}y{b}{{z&lt;}"), 1)
        self.assertEqual(put_alone("<a/>" * 511 + "x{a}y{b}{{z&lt;}" + "<a/>"), -28)
        self.assertEqual(put_alone("{a}" * 2730), 1)


class Templates(unittest.TestCase):
    def test_templates(self):
        for text in ("", "x", "\n", " ", "\x7f\xff", '"', ">", "}", "}}", "{{", "{{{{", "{{x}", "{{}", "{{{x}", "{x}}",
                     "{x}{x}",
                     "{a-0}", "{" + LONG_NAME + "}", "&lt;&gt;&amp;&quot;", "&#10;&#32;&#255;&#123;&#010;&#99;",
                     "<a/>", "<a />", "<a\n/>", "<a></a>", "<a ></a\n >", '<a b=""/>', '<a\n b=""  c="d" ></a>',
                     '<a b="{x}"/>', '<a b="{{"/>', '<a b="{{x}"/>', '<a b="}>\n"/>', '<a b="{x}{y}z{x}"/>',
                     "<" + LONG_NAME + "/>", "{?x}{/}", "{!x}{/}", "{*x}{/}", "{?x}a{/}b", "{?x}<a>{!y}{/}</a>{/}",
                     "{?" + LONG_NAME + "}{/}", "<script>x</script>", '<a onclick="x"/>', "<script>{?x}y{/}</script>"):
            self.assertEqual(put_alone(text), 1, text)

    def test_no_templates(self):
        for text in ("\x00", "\t", "\r", "\x1f", "<", "&", "&;", "&lt", "&LT;", "&apos;", "&#;", "&#0;", "&#9;",
                     "&#11;",
                     "&#31;", "&#256;", "&#999;", "&#0010;", "&#x41;", "& ", "a<", "a&b",
                     "{", "x{", "{{{", "{}", "{ }", "{ x}", "{x }", "{X}", "{0}", "{-}", "{x", "{x{", "{x<",
                     "{" + LONG_NAME + "a}",
                     "{?}", "{?x", "{? x}", "{?x }", "{?X}{/}", "{!}", "{*}", "{>}", "{> x}", "{>x", "{>x }",
                     "{?" + LONG_NAME + "a}{/}",
                     "{/}", "{/", "{/x}", "{/ }", "{?x}", "{!x}", "{*x}", "{?x}{/}{/}", "{?x}{*y}{/}", "{#x}",
                     "{/}{?x}", "{?}{/}", "{*1}{/}",
                     "{?x}<a>{/}</a>", "<a>{?x}</a>{/}", "<a>{/}", "{?x}</a>", "<a>{?x}</a>", "<a>{/}</a>", "{?a}</a>",
                     "<a>", "</a>", "<a></b>", "<a><b></a></b>", "<a/></a>", "< a/>", "<a/ >", "<a", "<a/", "<a ",
                     "</ a>", "<a></ a>", "<a></a",
                     "<A/>", "<0/>", "<>", "</>", "<a></>", "<" + LONG_NAME + "a/>", "<a></a b>",
                     '<a b/>', '<a b=/>', '<a b=c/>', "<a b='c'/>", '<a b= ""/>', '<a b =""/>', '<ab=""/>',
                     '<a b=""c=""/>',
                     '<a b="/>', '<a b="<"/>', '<a b="&"/>', '<a b="\t"/>', '<a b="&#0;"/>', '<a B=""/>', '<a =""/>',
                     '<a/b="">', '<a b=""/ >',
                     '<a b="{"/>', '<a b="{}"/>', '<a b="{?x}{/}"/>', '<a b="{!x}"/>', '<a b="{*x}"/>', '<a b="{/}"/>',
                     '<a b="{>x}"/>',
                     '<a b="{x"/>', '<a b="{ x}"/>', '<a {x}=""/>', '<a b={x}/>', "<{x}/>", '<a {?x}b=""{/}/>',
                     "<a {x}/>", "<a></{x}>",
                     '<a ' + LONG_NAME + 'a=""/>'):
            self.assertEqual(put_alone(text), -71, text)

    def test_two_attributes_of_one_name(self):
        for text in ('<a b="" b=""/>', '<a b="1" c="" b="2"></a>', '<a b="&lt;" b="">' + "</a>",
                     'x<c/><d><a b=""\nb=""/></d>',
                     '{?x}<a b="{x}" b="{x}"/>{/}'):
            self.assertEqual(put_alone(text), -22, text)
        self.assertEqual(put_alone('<a b=""><a b=""/></a><a b=""/>'), 1)

    def test_holes_that_are_forbidden(self):
        for text in ('<a style="{x}"/>', '<a srcdoc="{x}"/>', '<a on="{x}"/>', '<a onclick="{x}"/>',
                     '<a once="a{x}b"/>',
                     '<a b="" onx="{x}"/>', '<a b="{x}" style="{x}"/>', '<a on-x="{x}"/>', '<a on1="{x}"/>'):
            self.assertEqual(put_alone(text), -13, text)
            self.assertEqual(put_alone("{?x}<b>" + text + "</b>{/}"), -13, text)
        for name in ("script", "style", "iframe", "object", "embed"):
            for text in ('<{} a="{x}"/>', "<{}>{x}</{}>", "<{}>{>t}</{}>", "<{}>{?x}{x}{/}</{}>",
                         '<{}><b c="{x}"/></{}>',
                         "<{}><b>a{x}</b></{}>", "<{}><b/>{*x}<c>{>t}</c>{/}</{}>", "<{}><{}/>{x}</{}>",
                         "<{}><{}></{}>{x}</{}>"):
                whole = text.replace("{}", name)
                self.assertEqual(ask(put("t", ""), put("u", whole), put("u", "<b>" + whole + "</b>")), [1, -13, -13],
                                 whole)

    def test_holes_that_are_not_forbidden(self):
        for text in ('<a style="x" b="{x}"/>', '<a srcdoc="{{x}" b="{x}"/>', '<a no="{x}" o="{x}" n="{x}"/>',
                     '<a styles="{x}"/>',
                     '<a src="{x}" href="{x}" srcdocs="{x}" data-on="{x}"/>', "<script>x</script>{x}",
                     "<script/>{x}{?x}{/}",
                     "{x}<script>{{x}</script>", '<b c="{x}"><script/></b>', "<scripts>{x}</scripts>",
                     "{?script}{x}{/}{script}",
                     "<style>{?x}a{{{/}</style>{x}", '<script a="{{x}">{*x}<b/>{/}</script>', "{*style}{style}{/}",
                     "{?on}{on}{/}"):
            self.assertEqual(put_alone(text), 1, text)
        self.assertEqual(ask(put("t", ""), put("u", "<script></script>{>t}"), put("script", "{>t}"),
                             put("v", "{>script}{x}")), [1, 2, 3, 4])

    def test_uses_of_what_is_not_there(self):
        self.assertEqual(put_alone("{>u}"), -2)
        self.assertEqual(put_alone("{>t}"), -2)
        self.assertEqual(put_alone("<a>{?x}{>u}{/}</a>"), -2)
        self.assertEqual(ask(put("u", ""), put("t", "{>u}{>v}")), [1, -2])
        self.assertEqual(ask(put("u", ""), put("t", "{>u}{>u}"), put("v", "{>t}{>u}")), [1, 2, 3])
        self.assertEqual(ask(put("u", ""), take("u"), put("t", "{>u}")), [1, 0, -2])


# What is refused of the text, in the order of the document: a number, and what brings it.
FAULTS = [
    (-71, ["{-", "<", "&", "\t", "{?x}", "</a>", "{/}", "<a>"]),
    (-22, ['<a b="" b=""/>']),
    (-28, [f"<a{attributes(9)}/>", deep(33), "<a/>" * 513]),
    (-13, ['<a style="{x}"/>', '<a onx="{x}"/>', '<a srcdoc="{x}"/>', '<script a="{x}"/>', "<embed>{x}</embed>",
           '<style><b c="{x}"/></style>', "<object>{>none}</object>", "<iframe>{>u}</iframe>"]),
    (-2, ["{>none}"]),
]
ALL_FAULTS = [(place, number, text) for place, (number, texts) in enumerate(FAULTS) for text in texts]


class FirstRefusal(unittest.TestCase):
    def test_each_by_itself(self):
        for place, number, text in ALL_FAULTS:
            self.assertEqual(ask(put("u", ""), put("t", text)), [1, number], text)

    def test_pairs_within_the_text(self):
        for place, number, text in ALL_FAULTS:
            for other_place, other_number, other in ALL_FAULTS:
                if place < other_place:
                    for whole in (text + other, other + text, "x" + other + "<b/>" + text + "y"):
                        self.assertEqual(ask(put("u", ""), put("t", whole)), [1, number], whole)

    def test_all_within_the_text(self):
        for place in range(len(FAULTS)):
            whole = "".join(texts[0] for number, texts in reversed(FAULTS[place:]))
            self.assertEqual(ask(put("u", ""), put("t", whole)), [1, FAULTS[place][0]])

    def test_within_one_element(self):
        self.assertEqual(put_alone(f'<a b="" b=""{attributes(9)}/>'), -22)
        self.assertEqual(put_alone(f'<a{attributes(9)} b="" b=""/>'), -22)
        self.assertEqual(put_alone('<a style="{x}" style=""/>'), -22)
        self.assertEqual(put_alone(f'<a{attributes(8)} style="{{x}}"/>'), -28)
        self.assertEqual(put_alone('<a style="{x}" style="{"/>'), -71)

    def test_no_name_is_first(self):
        for place, number, text in ALL_FAULTS + [(0, 0, "x" * 8193)]:
            self.assertEqual(ask(put("u", ""), put("T", text)), [1, -22], text)
        self.assertEqual(ask(*[put(f"t{count}", "") for count in range(32)], put("", ""), put("T", "{"))[32:],
                         [-22, -22])

    def test_a_name_that_is_there_is_second(self):
        for place, number, text in ALL_FAULTS + [(0, 0, "x" * 8193)]:
            self.assertEqual(ask(put("u", ""), put("u", text)), [1, -17], text)
        self.assertEqual(ask(*[put(f"t{count}", "") for count in range(32)], put("t0", ""), put("t31", "{"))[32:],
                         [-17, -17])

    def test_32_templates_are_third(self):
        calls = [put(f"t{count}", "") for count in range(32)]
        faults = [put("u", text) for place, number, text in ALL_FAULTS]
        self.assertEqual(ask(*calls, put("u", "{"), put("u", '<a b="" b=""/>'), put("u", '<a on="{x}"/>'),
                             put("u", "{>u}"))[32:], [-28] * 4)
        self.assertEqual(ask(*calls, *faults)[32:], [-28] * len(faults))

    def test_a_long_text_is_not_looked_at(self):
        for text in ("{", "\x00", '<a b="" b=""/>', '<a style="{x}"/>', "{>none}"):
            self.assertEqual(put_alone(text + "x" * 8192), -28, text)
            self.assertEqual(put_alone("x" * 8192 + text), -28, text)


class NothingChanged(unittest.TestCase):
    def test_behind_a_refusal(self):
        for place, number, text in ALL_FAULTS + [(0, -28, "x" * 8193)]:
            told = ask(put("u", "1"), put("t", text), fill("t", ""), take("t"), fill("u", ""), put("t", "{>u}2"),
                       fill("t", ""))
            self.assertEqual(told, [1, number, -2, -2, "1", 2, "12"], text)

    def test_behind_a_refused_name(self):
        self.assertEqual(ask(put("u", "1"), put("u", "2"), put("U", "3"), fill("u", ""), take("u"), fill("u", "")),
                         [1, -17, -22, "1", 0, -2])

    def test_a_refused_template_uses_nothing(self):
        self.assertEqual(ask(put("u", ""), put("t", "{>u}{>none}"), put("t", "<script>{>u}</script>"), take("u")),
                         [1, -2, -13, 0])


class Take(unittest.TestCase):
    def test_ordinary(self):
        self.assertEqual(ask(put("a", "1"), put("b", "2"), take("a"), fill("a", ""), fill("b", ""), take("b")),
                         [1, 2, 1, -2, "2", 0])

    def test_not_there(self):
        self.assertEqual(ask(take("a"), take(""), take("A"), take("a" * 17), put("a", ""), take("b"), take("aa")),
                         [-2] * 4 + [1, -2, -2])
        self.assertEqual(ask(put("a", ""), take("a"), take("a")), [1, 0, -2])

    def test_a_long_name_is_not_its_beginning(self):
        self.assertEqual(ask(put("a" * 16, ""), take("a" * 17), fill("a" * 17, ""), take("a" * 16)), [1, -2, -2, 0])

    def test_in_use(self):
        told = ask(put("a", "1"), put("b", "<p>{?x}{>a}{/}</p>"), take("a"), fill("b", "<x/>"), take("b"), take("a"))
        self.assertEqual(told, [1, 2, -16, "<p>1</p>", 1, 0])

    def test_in_use_by_several(self):
        told = ask(put("a", ""), put("b", "{>a}"), put("c", "{>b}{>a}"), take("b"), take("c"), take("a"), take("b"),
                   take("a"))
        self.assertEqual(told, [1, 2, 3, -16, 2, -16, 1, 0])

    def test_a_hole_or_a_block_of_that_name_is_no_use(self):
        self.assertEqual(ask(put("a", ""), put("b", '{a}{?a}{/}{!a}{/}{*a}{/}<a a="{a}"/>'), take("a")), [1, 2, 1])

    def test_put_again(self):
        self.assertEqual(ask(put("a", "1"), put("b", ""), take("a"), put("a", "2"), fill("a", "")), [1, 2, 1, 2, "2"])


if __name__ == "__main__":
    unittest.main()
