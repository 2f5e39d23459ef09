"""The interface: how calls and answers are told, and what holds of every list that is handed in."""

import contextlib
import io
import sys
import unittest

from soundpages.maker import answers
from tests.helper import START, ask, fill, line, put, row, split, take


class Untouched(list):
    """A list that refuses every change, even one that is undone."""

    def refuse(self, *args, **kwargs):
        raise AssertionError("the list handed in was changed")

    __setitem__ = __delitem__ = __iadd__ = __imul__ = refuse
    append = extend = insert = pop = remove = clear = sort = reverse = refuse


# One line with every call and many answers.
BUSY = line(
    START, put("a", "x{n}"), put("b", '<p id="{n}">{>a}</p>'), put("b", ""), take("a"), fill("b", "<n>&lt;</n>"),
    fill("c", ""), put("", ""), put("c", "{"), fill("b", "<"), take("b"), fill("a", "<n/>"), START, take("a"),
    put("l", "{*i}{*i}{n}{/}{/}"), fill("l", "<i/>" * 1024), fill("l", "<i/><i><n>1</n></i>"), take("l"),
)


class Told(unittest.TestCase):
    def test_start(self):
        self.assertEqual(answers([0]), [2, 0, 0])
        self.assertEqual(answers([0, 0]), [2, 0, 0, 2, 0, 0])

    def test_put_take(self):
        self.assertEqual(answers([0, 1, 1, 97, 0]), [2, 0, 0, 2, 0, 1])
        self.assertEqual(answers([0, 1, 1, 97, 1, 120, 2, 1, 97]), [2, 0, 0, 2, 0, 1, 2, 0, 0])

    def test_fill(self):
        self.assertEqual(answers([0, 1, 1, 97, 2, 104, 105, 3, 1, 97, 0]), [2, 0, 0, 2, 0, 1, 4, 1, 2, 104, 105])

    def test_fill_with_no_bytes(self):
        self.assertEqual(answers([0, 1, 1, 97, 0, 3, 1, 97, 0]), [2, 0, 0, 2, 0, 1, 2, 1, 0])

    def test_refusals(self):
        self.assertEqual(answers([0, 1, 0, 0]), [2, 0, 0, 2, 0, -22])
        self.assertEqual(answers([0, 2, 0]), [2, 0, 0, 2, 0, -2])
        self.assertEqual(answers([0, 3, 0, 0]), [2, 0, 0, 2, 0, -2])

    def test_empty_rows_are_followed_by_the_next_call(self):
        self.assertEqual(split(answers([0, 1, 0, 0, 2, 0, 3, 0, 0, 0])), [0, -22, -2, -2, 0])

    def test_whole_numbers_alone(self):
        given = answers(BUSY)
        self.assertIs(type(given), list)
        self.assertEqual({type(number) for number in given}, {int})

    def test_sixty_calls(self):
        calls = [START] + [put(f"t{number}", "") for number in range(31)] + [fill("t1", "")] * 28
        self.assertEqual(len(calls), 60)
        self.assertEqual(split(answers(line(*calls))), [0] + list(range(1, 32)) + [""] * 28)


class Start(unittest.TestCase):
    def test_no_templates(self):
        self.assertEqual(ask(take("a"), fill("a", "")), [-2, -2])

    def test_again_after_others(self):
        told = ask(put("a", "1"), put("b", "{>a}"), START, fill("b", ""), take("a"), put("b", "{>a}"), put("a", "2"),
                   put("b", "{>a}"), fill("b", ""))
        self.assertEqual(told, [1, 2, 0, -2, -2, -2, 1, 2, "2"])


class OneBehindAnother(unittest.TestCase):
    def test_all_calls(self):
        told = split(answers(BUSY))
        self.assertEqual(told[:14], [0, 1, 2, -17, -16, '<p id="&lt;">x&lt;</p>', -2, -22, -71, -71, 1, "x", 0, -2])
        self.assertEqual(told[14:], [1, -62, "111", 0])

    def test_filled_twice_with_other_data(self):
        told = ask(put("a", "{x}"), fill("a", "<x>1</x>"), fill("a", "<x>2</x>"), fill("a", ""))
        self.assertEqual(told, [1, "1", "2", ""])

    def test_a_refused_fill_leaves_nothing_behind(self):
        told = ask(put("a", "{*x}{*x}<b/>{/}{/}"), fill("a", "<x/>" * 1000), fill("a", "<x/>" * 40), fill("a", "<x/>"))
        self.assertEqual(told, [1, -62, -28, "<b></b>"])


class WholeProgram(unittest.TestCase):
    def test_the_list_stays_as_it_was(self):
        handed = list(BUSY)
        answers(handed)
        self.assertEqual(handed, BUSY)

    def test_the_list_is_not_changed_for_a_while_either(self):
        self.assertEqual(answers(Untouched(BUSY)), answers(BUSY))

    def test_the_answer_is_a_list_of_its_own(self):
        given = answers(BUSY)
        kept = list(given)
        given.append(1)
        self.assertEqual(answers(BUSY), kept)

    def test_the_same_answers_again(self):
        first = answers(BUSY)
        answers(line(START, put("a", "other"), put("n", "{>a}")))
        self.assertEqual(answers(BUSY), first)

    def test_nothing_is_kept(self):
        answers(line(START, put("a", "x")))
        self.assertEqual(answers([3] + row("a") + row("")), [2, 0, -2])
        self.assertEqual(answers([2] + row("a")), [2, 0, -2])

    def test_nothing_is_printed(self):
        out, err = io.StringIO(), io.StringIO()
        with contextlib.redirect_stdout(out), contextlib.redirect_stderr(err):
            answers(BUSY)
        self.assertEqual((out.getvalue(), err.getvalue()), ("", ""))


class NestedDeeply(unittest.TestCase):
    """With few calls allowed within one another, so that what recurses is found."""

    def setUp(self):
        self.limit = sys.getrecursionlimit()
        depth = 0
        frame = sys._getframe()
        while frame:
            depth += 1
            frame = frame.f_back
        sys.setrecursionlimit(depth + 60)

    def tearDown(self):
        sys.setrecursionlimit(self.limit)

    def test_data(self):
        self.assertEqual(ask(put("a", ""), fill("a", "<a>" * 5000)), [1, -28])

    def test_templates(self):
        self.assertEqual(ask(put("a", "<a>" * 1100 + "</a>" * 1100)), [-28])
        self.assertEqual(ask(put("a", "{*a}" * 1100 + "{/}" * 1100)), [-28])
        self.assertEqual(ask(put("a", "<a>" * 2700)), [-71])
        self.assertEqual(ask(put("a", "{" * 8192)), [1])
        self.assertEqual(ask(put("a", "x" * 8192)), [1])

    def test_uses_and_rounds(self):
        calls = [put("t0", "{x}{*y}{z}{/}")]
        for number in range(1, 32):
            calls.append(put(f"t{number}", "{*x}" * 32 + "{>t" + str(number - 1) + "}" + "{/}" * 32))
        told = ask(*calls, fill("t31", "<x>1</x><y><z>2</z></y>"))
        self.assertEqual(told, list(range(1, 33)) + ["12"])


if __name__ == "__main__":
    unittest.main()
