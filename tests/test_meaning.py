"""What a template means: holes, values, blocks, uses, rounds; and the document's first list of corners."""

import unittest

from tests.helper import page, put_alone


class Texts(unittest.TestCase):
    def test_plain(self):
        self.assertEqual(page(""), "")
        self.assertEqual(page("a"), "a")
        self.assertEqual(page("a\n b\xff\x7f}"), "a\n b\xff\x7f}")

    def test_one_form(self):
        self.assertEqual(page('a>b"c'), "a&gt;b&quot;c")
        self.assertEqual(page("&lt;&gt;&amp;&quot;&#60;&#65;&#10;&#38;lt;"), "&lt;&gt;&amp;&quot;&lt;A\n&amp;lt;")
        self.assertEqual(page("<a />"), "<a></a>")
        self.assertEqual(page('<a\n b="c"\n d=">&#34;\'" ></a >'), '<a b="c" d="&gt;&quot;\'"></a>')
        self.assertEqual(page('<z y="" x="" w=""/>'), '<z y="" x="" w=""></z>')

    def test_braces(self):
        self.assertEqual(page("{{"), "{")
        self.assertEqual(page("{{{{"), "{{")
        self.assertEqual(page("}"), "}")
        self.assertEqual(page("{{x}", "<x>1</x>"), "{x}")
        self.assertEqual(page("{{{x}}", "<x>1</x>"), "{1}")
        self.assertEqual(page("&#123;x}", "<x>1</x>"), "{x}")
        self.assertEqual(page('<a b="{{x}{{{x}}"/>', "<x>1</x>"), '<a b="{x}{1}"></a>')

    def test_a_hole(self):
        self.assertEqual(page("{x}", "<x>1</x>"), "1")
        self.assertEqual(page("a{x}b{y}c{x}", "<x>1</x><y>2</y>"), "a1b2c1")
        self.assertEqual(page("a{x}b", ""), "ab")
        self.assertEqual(page("a{x}b", "<x/>"), "ab")
        self.assertEqual(page("a{x}b", "x<y>x</y>"), "ab")

    def test_the_first_one_fills_it(self):
        self.assertEqual(page("{x}", "<x>1</x><x>2</x>"), "1")
        self.assertEqual(page("a{x}b", "<x/><x>2</x>"), "ab")
        self.assertEqual(page("{x}", "<y><x>0</x></y><x>1</x>"), "1")

    def test_only_what_stands_there_fills_it(self):
        self.assertEqual(page("[{y}]", "<x><y>1</y></x>"), "[]")
        self.assertEqual(page("{x}", "<x>1<x>2</x>3</x>"), "123")

    def test_all_texts_in_it(self):
        self.assertEqual(page("{x}", "a<x>b<y>c<z>d</z>e</y><y/>f</x>g"), "bcdef")

    def test_what_fills_it_is_written_as_text(self):
        self.assertEqual(page("{x}", '<x>&lt;b>{y}{{"&amp;&#38;</x><y>1</y>'), "&lt;b&gt;{y}{{&quot;&amp;&amp;")

    def test_values_of_the_data_fill_nothing(self):
        self.assertEqual(page("[{x}{y}]", '<x y="1"/>'), "[]")


class Values(unittest.TestCase):
    def test_holes(self):
        self.assertEqual(page('<a b="{x}" c="-{y}-{x}-"/>', '<x>"1"</x><y>&lt;</y>'),
                         '<a b="&quot;1&quot;" c="-&lt;-&quot;1&quot;-"></a>')
        self.assertEqual(page('<a b="{x}"/>'), '<a b=""></a>')

    def lead(self, value, d, name="href"):
        told = page(f'<a {name}="{value}"/>', d)
        self.assertTrue(told.startswith(f'<a {name}="') and told.endswith('"></a>'), told)
        return told[len(name) + 5:-6]

    def test_where_it_leads(self):
        for name in ("href", "src", "action", "formaction", "poster", "cite"):
            for text in ("https://", "https://x", "/", "/x", "/x//", "/:", "https:///", "/ /", "/\\"):
                self.assertEqual(self.lead("{x}", f"<x>{text}</x>", name), text)
            for text in ("", "#", "//", "//x", "///", "http://x", "https:/", "https:", "https:/x/", "HTTPS://x",
                         "Https://x", "x", " /x",
                         " https://x", "\n/", "javascript:x", "data:x", "x/", "#/", "?", "xhttps://", "\\/x"):
                self.assertEqual(self.lead("{x}", f"<x>{text}</x>", name), "#", text)

    def test_whole_value_counts(self):
        self.assertEqual(self.lead("/{x}", "<x>y</x>"), "/y")
        self.assertEqual(self.lead("/{x}", "<x>/y</x>"), "#")
        self.assertEqual(self.lead("/{x}", ""), "/")
        self.assertEqual(self.lead("https:/{x}", "<x>/y</x>"), "https://y")
        self.assertEqual(self.lead("https://{x}", "<x>&quot;</x>"), "https://&quot;")
        self.assertEqual(self.lead("{x}{y}", "<x>/</x><y>/</y>"), "#")
        self.assertEqual(self.lead("{x}{y}", "<x>/</x><y>y</y>"), "/y")
        self.assertEqual(self.lead("java{x}", "<x>script:</x>"), "#")

    def test_without_a_hole_it_stays(self):
        for text in ("", "javascript:x", "//x", "x", "{{x}"):
            self.assertEqual(self.lead(text, "<x>1</x>"), text.replace("{{", "{"))

    def test_other_attributes_lead_nowhere(self):
        for name in ("id", "hre", "hrefs", "data-src", "srcset", "actions", "form", "x-cite"):
            self.assertEqual(self.lead("{x}", "<x>javascript:</x>", name), "javascript:")

    def test_several_at_once(self):
        self.assertEqual(page('<a href="{x}" id="{x}" src="/{x}" cite="x"/>', "<x>y</x>"),
                         '<a href="#" id="y" src="/y" cite="x"></a>')

    def test_a_long_value_that_leads_nowhere(self):
        self.assertEqual(page('<a href="{x}{x}"/>', "<x>" + "y" * 16000 + "</x>"), '<a href="#"></a>')
        self.assertEqual(page('<a href="' + "{x}" * 2700 + '"/>', "<x>" + "y" * 16000 + "</x>"), '<a href="#"></a>')
        self.assertEqual(page('<a href="/{x}{x}"/>', "<x>" + "y" * 16000 + "</x>"), -28)


class Blocks(unittest.TestCase):
    def test_if_there(self):
        self.assertEqual(page("a{?x}b{/}c", "<x/>"), "abc")
        self.assertEqual(page("a{?x}b{/}c", "<x/><x/>"), "abc")
        self.assertEqual(page("a{?x}b{/}c", ""), "ac")
        self.assertEqual(page("a{?x}b{/}c", "x"), "ac")
        self.assertEqual(page("a{?x}b{/}c", "<y><x/></y>"), "ac")

    def test_if_none(self):
        self.assertEqual(page("a{!x}b{/}c", "<x/>"), "ac")
        self.assertEqual(page("a{!x}b{/}c", ""), "abc")
        self.assertEqual(page("a{!x}b{/}c", "<y><x/></y>"), "abc")

    def test_if_adds_no_round(self):
        self.assertEqual(page("{?x}[{y}]{/}", "<x><y>1</y></x>"), "[]")

    def test_for_each(self):
        self.assertEqual(page("a{*x}b{/}c", ""), "ac")
        self.assertEqual(page("a{*x}b{/}c", "<x/>-<x/>"), "abbc")
        self.assertEqual(page("{*x}[{y}]{/}", "<x><y>1</y></x><z/><x><y>2</y></x><x/>"), "[1][2][]")
        self.assertEqual(page("{*x}{/}", "<x/>"), "")

    def test_for_each_of_the_innermost(self):
        d = "<x>0</x><y><x>1</x><x>2</x></y><y/>"
        self.assertEqual(page("{*y}({*x}{!y}-{/}.{/}){/}", d), "(..)(.)")
        self.assertEqual(page("{*y}({x}){/}", d), "(1)(0)")

    def test_the_own_name_is_not_in_its_round(self):
        self.assertEqual(page("{*x}{x}{/}", "<x>1</x><x>2</x>"), "11")
        self.assertEqual(page("{*x}{x}{/}", "<x>1<x>3</x></x><x>2</x>"), "313")

    def test_rounds_end(self):
        self.assertEqual(page("{*x}{y}{/}[{y}]{?y}no{/}", "<x><y>1</y></x>"), "1[]")
        self.assertEqual(page("{*x}{y}{/}{y}", "<x><y>1</y></x><y>0</y>"), "10")
        self.assertEqual(page("{*x}{*y}{z}{/}{?z}!{/}{/}", "<x><y><z>1</z></y><y><z>2</z></y></x>"), "12")

    def test_rounds_of_one_after_another(self):
        self.assertEqual(page("{*x}{?y}{y}{/}{!y}no{/};{/}", "<x><y>1</y></x><x/><x><y>3</y></x>"), "1;no;3;")

    def test_two_rounds_out(self):
        d = "<c>far</c><a><b>x</b><b><c>near</c></b></a>"
        self.assertEqual(page("{*a}{*b}{c};{/}{/}", d), "far;near;")
        self.assertEqual(page("{*a}{*b}{?c}1{/}{!c}0{/}{/}{/}", d), "11")
        self.assertEqual(page("{*a}{*b}{*c}[{c}]{/}{/}{/}", d), "[far][near]")

    def test_elements_in_blocks(self):
        self.assertEqual(page('<ul>{*x}<li id="{y}">{y}</li>{/}</ul>', "<x><y>1</y></x><x><y>&lt;</y></x>"),
                         '<ul><li id="1">1</li><li id="&lt;">&lt;</li></ul>')


class Uses(unittest.TestCase):
    def test_use(self):
        self.assertEqual(page("[{>u}]", "<x>1</x>", u="<b>{x}</b>"), "[<b>1</b>]")
        self.assertEqual(page("[{>u}]", "", u=""), "[]")
        self.assertEqual(page("{>v}{>u}{>v}", "<x>1</x>", u="{x}", v="({>u})"), "(1)1(1)")

    def test_rounds_as_they_are(self):
        self.assertEqual(page("{*x}{>u}{/}{>u}", "<x><y>1</y></x><y>2</y>", u="[{y}]"), "[1][2]")

    def test_rounds_behind_a_use(self):
        self.assertEqual(page("{>u}{y}", "<x><y>1</y></x><y>2</y>", u="{*x}{y}{/}"), "12")
        self.assertEqual(page("{*x}{>u}{y};{/}", "<x><y>1</y></x><x><y>2</y></x>", u="{*y}-{/}"), "-1;-2;")

    def test_use_at_the_end_of_a_block(self):
        self.assertEqual(page("{*x}{>u}{/}", "<x/><x/>", u="{?x}<a/>{/}"), "<a></a><a></a>")


class TextsThatMeet(unittest.TestCase):
    def test_one_mark(self):
        # 1,023 elements and one text: 2,047 marks; were the texts apart there would be more than 2,048.
        t = "{*x}<a/>{/}a{?x}b{/}{>u}{x}c"
        d = "<x/>" * 1023
        self.assertEqual(page(t, d, u="d{!y}e{/}"), "<a></a>" * 1023 + "abdec")


class Corners(unittest.TestCase):
    def test_a_brace_at_the_end(self):
        self.assertEqual(put_alone("{"), -71)
        self.assertEqual(put_alone("abc{"), -71)
        self.assertEqual(page("abc{{"), "abc{")

    def test_two_braces_and_one(self):
        self.assertEqual(page("{{x}", "<x>1</x>"), "{x}")

    def test_a_hole_in_a_value_that_has_another_one(self):
        self.assertEqual(page('<a b="{x}{y}"/>', "<x>{y}</x><y>{x}</y>"), '<a b="{y}{x}"></a>')

    def test_script_as_text_and_as_an_element(self):
        self.assertEqual(page("<p>{x}</p>", "<x>&lt;script>1&lt;/script></x>"), "<p>&lt;script&gt;1&lt;/script&gt;</p>")
        self.assertEqual(page("<p>{x}</p>", "<x><script>1</script></x>"), "<p>1</p>")
        self.assertEqual(page("<p>{script}</p>{*script}2{/}", "<script>1</script>"), "<p>1</p>2")

    def test_found_two_rounds_out(self):
        self.assertEqual(page("{*a}{*b}{n}{/}{/}", "<n>1</n><a><b/></a>"), "1")

    def test_each_in_each(self):
        self.assertEqual(page("{*x}{*x}{n}{/};{/}", "<x><n>1</n></x><x><n>2</n></x>"), "12;12;")
        self.assertEqual(page("{*x}{*x}{n}{/};{/}", "<x><x><n>1</n></x><x><n>2</n></x></x><x><n>3</n></x>"), "12;33;")

    def test_none_in_each(self):
        self.assertEqual(page("{*x}[{!x}no{/}]{/}", "<x/><x><x/></x>"), "[][]")
        self.assertEqual(page("{*x}[{!y}no{/}]{/}", "<x/><x><y/></x>"), "[no][]")

    def test_a_use_in_a_block(self):
        self.assertEqual(page("{?x}{>u}{/}{!x}{>u}{/}{*x}{>u}{/}", "<x><n>1</n></x><n>0</n>", u="{n}"), "01")

    def test_an_empty_data_page(self):
        self.assertEqual(page('<a href="{x}" id="{x}">{x}{?x}1{/}{!x}2{/}{*x}3{/}</a>', ""), '<a href="#" id="">2</a>')

    def test_https_behind_a_first_hole(self):
        self.assertEqual(page('<a href="{x}https://y"/>', ""), '<a href="https://y"></a>')
        self.assertEqual(page('<a href="{x}https://y"/>', "<x>javascript:</x>"), '<a href="#"></a>')
        self.assertEqual(page('<a href="{x}https://y"/>', "<x>/</x>"), '<a href="/https://y"></a>')

    def test_two_slashes(self):
        self.assertEqual(page('<a href="{x}"/>', "<x>//x</x>"), '<a href="#"></a>')
        self.assertEqual(page('<a href="//x"/>', ""), '<a href="//x"></a>')

    def test_a_hole_that_gives_a_hash(self):
        self.assertEqual(page('<a href="{x}"/>', "<x>#</x>"), '<a href="#"></a>')
        self.assertEqual(page('<a href="{x}"/>', "<x>#a</x>"), '<a href="#"></a>')

    def test_a_text_of_empty_holes(self):
        self.assertEqual(page("{x}{y}{x}", "<x/>"), "")
        self.assertEqual(page("<a>{x}{y}</a>", "<x/>"), "<a></a>")
        self.assertEqual(page("{*x}{n}{n}{/}", "<x/>" * 1024), "")
        # It is no mark: 2,048 have come already.
        self.assertEqual(page("{*x}<a/>{/}{n}{x}", "<x/>" * 1024), "<a></a>" * 1024)
        self.assertEqual(page("{*x}<a/>{n}{/}{n}", "<x/>" * 1024), "<a></a>" * 1024)


if __name__ == "__main__":
    unittest.main()
