"""tp_fill: each refusal by itself, which one comes first, and the edges of what is given."""

import unittest

from tests.helper import ask, attributes, fill, page, put, take


def deep(number):
    return "<a>" * number + "</a>" * number


class NotThere(unittest.TestCase):
    def test_not_there(self):
        for name in ("", "a", "T", "tt", "t" * 17):
            self.assertEqual(ask(put("t", ""), fill(name, "")), [1, -2])

    def test_before_all_others(self):
        for d in ("<", '<a b="" b=""/>', deep(33), "x" * 16385, "<x/>" * 1025):
            self.assertEqual(ask(put("t", ""), fill("u", d), fill("", d)), [1, -2, -2])

    def test_taken(self):
        self.assertEqual(ask(put("t", ""), take("t"), fill("t", "")), [1, 0, -2])


class Data(unittest.TestCase):
    """Each one of pg_read's refusals, as it answers them: mark by mark, the first one met."""

    def told(self, d):
        return page("", d)

    def test_bytes(self):
        self.assertEqual(self.told("x" * 16383), "")
        self.assertEqual(self.told("x" * 16384), "")
        self.assertEqual(self.told("x" * 16385), -28)
        self.assertEqual(self.told("x" * 16400), -28)

    def test_a_long_one_is_not_looked_at(self):
        for text in ("<", "\x00", '<a b="" b=""/>'):
            self.assertEqual(self.told(text + "x" * 16384), -28)

    def test_attributes(self):
        self.assertEqual(self.told(f"<a{attributes(8)}/>"), "")
        self.assertEqual(self.told(f"<a{attributes(9)}/>"), -28)
        self.assertEqual(self.told('<a b="" b=""/>'), -22)
        self.assertEqual(self.told(f'<a b="" b=""{attributes(9)}/>'), -22)
        self.assertEqual(self.told(f'<a{attributes(9)} b="" b=""/>'), -22)
        self.assertEqual(self.told('<a b=""/><a b=""><c b=""/></a>'), "")

    def test_depth(self):
        self.assertEqual(self.told(deep(32)), "")
        self.assertEqual(self.told(deep(33)), -28)
        self.assertEqual(self.told("<a>" * 31 + "<b/>" + "</a>" * 31), "")
        self.assertEqual(self.told("<a>" * 32 + "<b/>" + "</a>" * 32), -28)
        self.assertEqual(self.told("<a>" * 32 + "text" + "</a>" * 32), "")
        self.assertEqual(self.told("<a>" * 32 + '<b c="" c=""/>' + "</a>" * 32), -22)
        self.assertEqual(self.told(deep(32) * 2), "")

    def test_marks(self):
        self.assertEqual(self.told("<a/>" * 1024), "")
        self.assertEqual(self.told("<a></a>" * 1024), "")
        self.assertEqual(self.told("<a/>" * 1024 + "x"), -28)
        self.assertEqual(self.told("<a/>" * 1025), -28)
        self.assertEqual(self.told("x" + "<a/>" * 1024), -28)
        self.assertEqual(self.told("x" + "<a/>" * 1023 + "y"), "")
        self.assertEqual(self.told("x" + "<a/>" * 1023 + "y<a></a>"), -28)
        # The opening is the 2,048th mark and brings one more, or the closing is one too many.
        self.assertEqual(self.told("x" + "<a/>" * 1023 + "<b/>"), -28)
        self.assertEqual(self.told("x" + "<a/>" * 1023 + "<b>"), -71)
        self.assertEqual(self.told("x" + "<a/>" * 1023 + "<b></b>"), -28)

    def test_where_a_mark_is_both_wrong_and_too_many(self):
        self.assertEqual(self.told("<a/>" * 1024 + "x&"), -71)
        self.assertEqual(self.told("<a/>" * 1024 + "x<"), -28)
        self.assertEqual(self.told("<a/>" * 1024 + "<"), -71)
        self.assertEqual(self.told("<a/>" * 1024 + "</a>"), -71)
        self.assertEqual(self.told("<a/>" * 1024 + '<a b="" b=""/>'), -22)

    def test_the_first_one_met(self):
        faults = [("<", -71), ("&", -71), ("</a>", -71), ("<a></b>", -71), ('<a b="" b=""/>', -22),
                  (f"<a{attributes(9)}/>", -28),
                  (deep(33), -28)]
        for text, number in faults:
            self.assertEqual(self.told(text), number)
            for other, other_number in faults:
                self.assertEqual(self.told(text + "<c/>" + other), number, text + other)

    def test_unended(self):
        self.assertEqual(self.told("<a>"), -71)
        self.assertEqual(self.told("<a><b></b>"), -71)
        self.assertEqual(self.told('<a><b c="" c="">'), -22)


class Steps(unittest.TestCase):
    """How many parts are gone through."""

    def edge(self, t, d, more, meant, **others):
        """t goes through 20,000 parts; with more behind it through 20,001."""
        self.assertEqual(page(t, d, **others), meant)
        self.assertEqual(page(t + more, d, **others), -62)
        self.assertEqual(page(more + t, d, **others), -62)

    def test_blocks_that_are_not_entered(self):
        t = "{*x}" + "{?y}<a/>{/}" * 199 + "{/}" + "{?y}{/}" * 99
        self.edge(t, "<x/>" * 100, "{?y}{/}", "")

    def test_blocks_that_are_entered(self):
        # 1 + 100 * 2 * 99 + 99 * 2 + 1: their ends count for nothing.
        t = "{*x}" + "{?x}{y}{/}" * 99 + "{/}" + "{!z}{y}{/}" * 99 + "{?x}{/}"
        self.edge(t, "<x/>" * 100, "{*y}{/}", "")

    def test_a_beginning_counts_once(self):
        t = "{*x}{*y}{z}{/}{/}" + "{z}{?z}{/}" * 49
        # 1 + 100 * (1 + 198) + 98 = 19,999, and one more.
        self.edge(t + "{?z}{/}", "<x/>" * 100 + "<y/>" * 198, "{?z}{/}", "")

    def test_empty_blocks_take_one_step(self):
        self.assertEqual(page("{*x}{*x}{/}{/}", "<x/>" * 1024), "")
        self.edge("{*x}" + "{*x}{/}" * 199 + "{/}" + "{*x}{/}" * 99, "<x/>" * 100, "{*x}{/}", "")

    def test_uses_count_and_what_they_give(self):
        # 1 + 1,000 * (1 + 18) = 19,001; and 999 more: 9 * (1 + 110) = 999.
        t = "{*x}{>u}{/}" + "{>v}" * 9
        self.edge(t, "<x/>" * 1000, "{>w}", "", u="{!x}{/}" * 18, v="{!x}{/}" * 110, w="")

    def test_texts_and_elements(self):
        # 1 + 100 * 19 = 1,901, of which 4 * 100 are openings or closings; then 18,099 more.
        t = "{*x}<a/>{y}<b></b>" + "{!x}{/}{y}" * 7 + "{/}" + "{*x}" + "{!x}{/}" * 180 + "{/}" + "{!x}{/}" * 98
        self.edge(t, "<x/>" * 100, "{!x}{/}", "<a></a><b></b>" * 100)

    def test_a_long_way_that_gives_too_much(self):
        # -62 stands ahead of each -28.
        d = "<n>" + "n" * 9000 + "</n>" + "<x/>" * 200
        for inner in ("<a/>", "<a>b</a>", "x", "{n}", "<a>" * 30 + "{>u}" + "</a>" * 30):
            self.assertEqual(page("{*x}{*x}" + inner + "{/}{/}", d, u=deep(3)), -62)

    def test_a_short_way_that_gives_too_much(self):
        d = "<n>" + "n" * 9000 + "</n>" + "<x/>" * 25 + "<y/>" * 50
        for inner in ("<a/>", "<a>b</a>", "x" * 200, "{n}"):
            self.assertEqual(page("{*x}{*y}" + inner + "{/}{/}", d), -28)
        self.assertEqual(page("<a>" * 30 + "{>u}" + "</a>" * 30, d, u=deep(3)), -28)

    def test_data_are_refused_ahead(self):
        t = "{*x}{*x}y{/}{/}"
        self.assertEqual(page(t, "<x/>" * 200), -62)
        self.assertEqual(page(t, "<x/>" * 200 + "<"), -71)
        self.assertEqual(page(t, "<x/>" * 200 + '<x a="" a=""/>'), -22)
        self.assertEqual(page(t, "<x/>" * 200 + deep(33)), -28)
        self.assertEqual(page(t, "<x/>" * 200 + "x" * 16384), -28)

    def test_many_empty_holes_take_no_time(self):
        t = "{*x}{*x}" + "{y}" * 2700 + "{/}{/}"
        self.assertEqual(page(t, "<x/>" * 1000 + "<y/>"), -62)
        self.assertEqual(page(t, "<x/>" * 1000 + "<z><y>1</y></z>"), -62)
        self.assertEqual(page(t, "<x/>" * 100 + "<z><y>1</y></z>"), "")
        t = "{*x}{*x}a" + "{y}" * 2700 + "b{z}{/}{/}"
        self.assertEqual(page(t, "<x/>" * 70 + "<y/><z>c</z>"), "abc" * 4900)


class WhatIsGiven(unittest.TestCase):
    def test_marks(self):
        d = "<x/>" * 1024
        self.assertEqual(page("{*x}<a/>{/}", d), "<a></a>" * 1024)
        self.assertEqual(page("{*x}<a/>{/}b", d), -28)
        self.assertEqual(page("b{*x}<a/>{/}", d), -28)
        self.assertEqual(page("{*x}<a/>{/}<a/>", d), -28)
        self.assertEqual(page("<b>{*x}<a/>{/}</b>", d), -28)
        d = "<x/>" * 682
        self.assertEqual(page("{*x}<a>b</a>{/}<a/>", d), "<a>b</a>" * 682 + "<a></a>")
        self.assertEqual(page("{*x}<a>b</a>{/}<a/>c", d), -28)
        self.assertEqual(page("{*x}<a>b{n}</a>{/}<a>c</a>", d), -28)
        # A text before an opening and one behind it are two, and so they are about a closing.
        d = "<x/>" * 512
        self.assertEqual(page("{*x}a<b>c</b>{/}", d), "a<b>c</b>" * 512)
        self.assertEqual(page("{*x}a<b>c</b>{/}d", d), -28)

    def test_depth(self):
        for number in (31, 32):
            self.assertEqual(page(deep(number)), deep(number))
        half = "<a>" * 16 + "{>u}" + "</a>" * 16
        self.assertEqual(page(half, u=deep(16)), deep(32))
        self.assertEqual(page(half, u=deep(17)), -28)
        self.assertEqual(page(half, u="<a/>" + deep(17) + "<a/>"), -28)
        self.assertEqual(page(half, u="<a>" * 16 + "b" + "</a>" * 16), "<a>" * 32 + "b" + "</a>" * 32)
        self.assertEqual(page(half, u=deep(16) + deep(16)), "<a>" * 16 + deep(16) * 2 + "</a>" * 16)

    def test_blocks_lie_in_nothing_that_is_given(self):
        t = "{!x}" * 16 + "<a>" * 16 + "{>u}" + "</a>" * 16 + "{/}" * 16
        self.assertEqual(page(t, u="{!x}" * 16 + deep(16) + "{/}" * 16), deep(32))

    def test_bytes(self):
        d = "<x>" + "y" * 16377 + "</x>"
        self.assertEqual(len(d), 16384)
        self.assertEqual(page("{x}1234567", d), "y" * 16377 + "1234567")
        self.assertEqual(page("{x}12345678", d), -28)
        self.assertEqual(page("{x}<a/>", d), "y" * 16377 + "<a></a>")
        self.assertEqual(page("{x}<ab/>", d), -28)
        self.assertEqual(page("{x}<ab></ab>", d), -28)
        self.assertEqual(page("{x}{x}", d), -28)
        self.assertEqual(page("{x}{x}", "<x>" + "y" * 8192 + "</x>"), "y" * 16384)
        self.assertEqual(page("{x}{x}z", "<x>" + "y" * 8192 + "</x>"), -28)
        self.assertEqual(page('<a b="{x}"/>', "<x>" + "y" * 16372 + "</x>"), '<a b="' + "y" * 16372 + '"></a>')
        self.assertEqual(page('<a b="{x}"/>', "<x>" + "y" * 16373 + "</x>"), -28)

    def test_bytes_of_the_one_form(self):
        for sign, name, most in ((">", "gt", 4096), ('"', "quot", 2730)):
            whole = f"&{name};" * most
            rest = "r" * (16384 - len(whole))
            self.assertEqual(page("{x}{r}", f"<x>{sign * most}</x><r>{rest}</r>"), whole + rest)
            self.assertEqual(page("{x}{r}s", f"<x>{sign * most}</x><r>{rest}</r>"), -28)
        self.assertEqual(page("{x}" * 4, "<x>" + "&lt;" * 1024 + "</x>"), "&lt;" * 4096)
        self.assertEqual(page("{x}" * 4 + "a", "<x>" + "&lt;" * 1024 + "</x>"), -28)
        self.assertEqual(page("{x}" * 4, "<x>" + "&#60;" * 1024 + "</x>"), "&lt;" * 4096)
        self.assertEqual(page("{x}" * 5, "<x>" + "&amp;" * 655 + "</x>"), "&amp;" * 3275)
        self.assertEqual(page("{x}" * 5 + "&amp;&amp;", "<x>" + "&#38;" * 655 + "</x>"), -28)

    def test_a_text_that_comes_in_several_pieces(self):
        d = "<x/>" * 128 + "<y>" + "y" * 128 + "</y>"
        self.assertEqual(page("{*x}{y}{/}", d), "y" * 16384)
        self.assertEqual(page("{*x}{y}{/}z", d), -28)

    def test_many_holes_that_give_much(self):
        self.assertEqual(page("{x}" * 2700, "<x>" + "y" * 16000 + "</x>"), -28)
        self.assertEqual(page('<a b="' + "{x}" * 2700 + '"/>', "<x>" + "y" * 16000 + "</x>"), -28)


class NothingChanged(unittest.TestCase):
    def test_behind_a_refusal(self):
        for d, number in (("<", -71), ('<a b="" b=""/>', -22), ("x" * 16385, -28), ("<x/>" * 200, -62),
                          ("<x/>" * 60, -28)):
            told = ask(put("u", "<a>{n}</a>"), put("t", "{*x}{*x}{>u}{/}{/}"), fill("t", d),
                       fill("t", "<x><n>1</n></x>"), take("u"),
                       fill("u", "<n>2</n>"), take("t"))
            self.assertEqual(told, [1, 2, number, "<a>1</a>", -16, "<a>2</a>", 1])


if __name__ == "__main__":
    unittest.main()
