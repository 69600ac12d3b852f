"""The interface: how calls are written, and what is given back for them."""

import unittest

import pagemoves.pages

from tests.calling import (ESCAPE, FOCUS, HERE, OUTLINE, SIZE, as_escape, as_found, as_gone, as_heads, as_here, as_outline, as_text,
                           as_texts, ask, back, changed_rules, go, goback, grid, heads, move, next_of, page, press, prev_of,
                           sentence, tab)

SHOP = page("page top", '  h1 title "Shop"', "  table t", "    row ra", '      th ha "Name"', '      th hb "Price"',
            "    row rb", '      th hc "Apple"', '      cell cc "3"', '  h2 more "Deeds"',
            '  link go "Buy" order 2 press show:sure', '  field many label "How many" order 1', "  modal sure hidden",
            '    button no "No" press hide:sure')


class Example(unittest.TestCase):
    """The document's example: its calls in its order, on one object."""

    def test_before_the_press(self):
        given = ask(SHOP, FOCUS, tab("go"), next_of(1, "title"), OUTLINE, heads("cc"), move(0, "cc"), move(3, "cc"), move(2, "cc"),
                    sentence("cc"))
        self.assertEqual([14], given[0])
        self.assertEqual(["many", "go"], as_texts(given[1]))
        self.assertEqual("many", as_text(given[2]))
        self.assertEqual("more", as_found(given[3]))
        self.assertEqual([(1, "title", "Shop"), (2, "more", "Deeds")], as_outline(given[4]))
        self.assertEqual((["hb"], ["hc"]), as_heads(given[5]))
        self.assertEqual(["hc", None, "hb"], [as_found(answer) for answer in given[6:9]])
        self.assertEqual("Price Apple 3", as_text(given[9]))

    def test_the_whole(self):
        calls = [SHOP, FOCUS, tab("go"), next_of(1, "title"), OUTLINE, heads("cc"), move(0, "cc"), move(3, "cc"), move(2, "cc"),
                 sentence("cc"), go(1), go(3), press("go"), FOCUS, ESCAPE, HERE, goback(0), go(0), SIZE]
        given = ask(*calls)
        self.assertEqual(ask(*calls[:10]), given[:10])
        self.assertEqual(("title", 'heading 1 "Shop"'), as_gone(given[10]))
        self.assertEqual(("go", 'link "Buy"'), as_gone(given[11]))
        self.assertEqual([0, 0], given[12])
        self.assertEqual(["no"], as_texts(given[13]))
        self.assertEqual(("sure", ["no"]), as_escape(given[14]))
        self.assertEqual(("go", False), as_here(given[15]))
        self.assertEqual([0], given[16])
        self.assertEqual(("sure", "modal"), as_gone(given[17]))
        self.assertEqual([2, 1, 0], given[18])


class Writing(unittest.TestCase):
    LINE = (page("page top", "  link ab", "  h1 c") + FOCUS + tab("ab") + back("top") + next_of(1, "ab") + prev_of(3, "ab")
            + OUTLINE + press("x") + changed_rules() + next_of(9, "ab") + SIZE)

    def test_number_by_number(self):
        self.assertEqual([1, 3, 4, 1, 2, 97, 98, 3, 2, 97, 98, 1, -6, 3, 1, 1, 99, 1, 0, 5, 1, 1, 1, 99, 0, 1, -3, 1, 4,
                          1, -2, 3, 3, 1, 1], pagemoves.pages.answers(self.LINE))

    TABLE = (page("page top", "  modal m", "    table t", "      row r", '        th a "A"', '        cell b "B"',
                  "    link c press hide:m")
             + grid("t") + heads("b") + move(0, "b") + sentence("b") + ESCAPE + HERE + go(0) + goback(0) + SIZE)

    def test_number_by_number_of_the_others(self):
        self.assertEqual([1, 7, 6, 1, 2, 1, 97, 1, 98, 4, 0, 1, 1, 97, 3, 1, 1, 97, 4, 3, 65, 32, 66, 6, 1, 1, 109, 1, 1, 99,
                          5, 3, 116, 111, 112, 0, 9, 1, 1, 109, 5, 109, 111, 100, 97, 108, 1, 0, 3, 6, 1, 0],
                         pagemoves.pages.answers(self.TABLE))

    def test_what_is_handed_in_stays_as_it_was(self):
        for line in (self.LINE, self.TABLE, SHOP + press("go") + ESCAPE + press("no") + go(2) + grid("t")):
            calls = list(line)
            pagemoves.pages.answers(calls)
            self.assertEqual(line, calls)

    def test_a_second_time_answers_as_the_first(self):
        calls = (HERE + SHOP + go(3) + press("go") + changed_rules("p text focus") + SIZE + ESCAPE + HERE + go(0) + press("no")
                 + FOCUS + grid("t") + heads("cc") + move(2, "cc") + sentence("cc") + goback(0) + HERE)
        first = pagemoves.pages.answers(calls)
        self.assertEqual([[1, 0, 0], [3, 116, 111, 112, 1]], ask(SIZE, HERE))
        self.assertEqual(first, pagemoves.pages.answers(calls))
        self.assertEqual(first, pagemoves.pages.answers(list(calls)))

    def test_what_is_given_back_is_new(self):
        first = pagemoves.pages.answers(SIZE)
        first.append(5)
        self.assertEqual([3, 1, 0, 0], pagemoves.pages.answers(SIZE))

    def test_lists_of_whole_numbers(self):
        given = pagemoves.pages.answers(SHOP + press("go") + FOCUS + OUTLINE + SIZE + HERE + ESCAPE + press("no") + OUTLINE + HERE
                                        + grid("t") + heads("cc") + move(0, "cc") + sentence("cc") + go(0) + goback(9) + goback(1)
                                        + changed_rules())
        self.assertIs(list, type(given))
        self.assertEqual({int}, {type(number) for number in given})

    def test_fifty_calls(self):
        self.assertEqual([[3, 1, 1]] * 49, ask(page("page top", "  link a", "  h1 b"), *[SIZE] * 49)[1:])

    def test_long_rows(self):
        long = [7] * 4000
        self.assertEqual([[-1], [-1], [-3], [-3], [1, 0, 0]], ask([0, 4000] + long, [1, 4000] + long, [2, 4000] + long,
                                                                  [4, 4000] + long, SIZE))
        self.assertEqual([[-3], [-3], [-3], [-3], [1, 0, 0]], ask([9, 4000] + long, [10, 4000] + long, [11, 3, 4000] + long,
                                                                  [12, 4000] + long, SIZE))


class Refusals(unittest.TestCase):
    """Each call that's refused leaves everything as it was: all that can be asked answers as before."""

    REFUSED = [(page("page top hidden"), -1), ([1, 0], -1), (press("zz"), -3), (press("title"), -5), (press("no"), -6),
               (tab("zz"), -3), (tab("title"), -6), (back("zz"), -3), (back("no"), -6), (next_of(7, "zz"), -2),
               (next_of(0, "zz"), -3), (prev_of(-1, "zz"), -2), (prev_of(0, "zz"), -3), (grid("zz"), -3), (grid("cc"), -5),
               (heads("zz"), -3), (heads("t"), -5), (heads("ha"), -6), (move(4, "zz"), -2), (move(-1, "ha"), -2),
               (move(0, "zz"), -3), (move(0, "t"), -5), (move(0, "ha"), -6), (sentence("zz"), -3), (sentence("t"), -5),
               (sentence("ha"), -6), (go(7), -2), (go(-1), -2), (goback(7), -2), (goback(-1), -2)]
    ASKED = [FOCUS, OUTLINE, grid("t"), heads("cc"), sentence("cc"), ESCAPE, HERE, SIZE, goback(0), go(3), press("go")]

    def test_nothing_is_changed(self):
        hiding = page("page top", '  h1 title "Shop"', "  table t", "    row ra", '      th ha "Name" hidden', '      th hb "Price"',
                      "    row rb", '      cell cc "3"', "  link go press show:sure hide:t", "  modal sure hidden",
                      "    button no press hide:sure")
        start = [hiding, changed_rules("cell cell focus from text"), go(1), go(0)]
        expected = ask(*start, *self.ASKED)[4:]
        for call, number in self.REFUSED:
            with self.subTest(call=call):
                given = ask(*start, call, *self.ASKED)
                self.assertEqual([number], given[4])
                self.assertEqual(expected, given[5:])


if __name__ == "__main__":
    unittest.main()
