"""Promises 15 to 17: here, go and goback; and what's said of a box."""

import unittest

from tests.calling import (ESCAPE, FOCUS, HERE, OUTLINE, SIZE, as_gone, as_here, ask, back, changed_rules, go, goback, grid, heads,
                           last, move, next_of, page, press, prev_of, rules, sentence, tab)

ALL_KINDS = page("page top", "  h1 a", "  h2 b", "  h3 c", "  link d", "  button e", "  field f", "  check g", "  table h",
                 "  list i", "    item j", "  image k", "  live l", "  p m", "  part n")
BOXES = ["top"] + list("abcdefghijklmn")
OF_CLASS = [BOXES, list("abc"), list("defg"), ["d"], list("fg"), ["h"], ["i"]]
TO_THE_END = [go(0)] * 14


def here(*calls):
    return as_here(last(*calls, HERE))


class Here(unittest.TestCase):
    def test_new(self):
        self.assertEqual([3, 116, 111, 112, 1], last(HERE))

    def test_a_page_brings_one_to_its_first_box(self):
        self.assertEqual(("first", True), here(page("page first", "  p a")))
        self.assertEqual(("other", True), here(page("page first", "  p a"), go(0), page("page other", "  p a")))
        self.assertEqual(("first", True), here(page("page first", "  p a"), go(0), page("page first", "  p a")))

    def test_a_refused_page_does_not(self):
        self.assertEqual(("a", True), here(page("page top", "  p a"), go(0), page("page top hidden")))

    def test_press_leaves_one_where_one_is(self):
        box = page("page top", "  link a press flip:b", "  p b", "  p c")
        self.assertEqual(("b", True), here(box, go(0), go(0)))
        self.assertEqual(("b", False), here(box, go(0), go(0), press("a")))
        self.assertEqual(("b", True), here(box, go(0), go(0), press("a"), press("a")))
        self.assertEqual(("top", True), here(box, press("a")))
        self.assertEqual(("b", True), here(box, go(0), go(0), press("b")))

    def test_rules_leave_one_where_one_is(self):
        box = page("page top", "  part a", "    p b")
        whole = changed_rules("part part whole")
        self.assertEqual(("b", True), here(box, go(0), go(0)))
        self.assertEqual(("b", False), here(box, go(0), go(0), whole))
        self.assertEqual(("b", True), here(box, go(0), go(0), whole, changed_rules()))
        self.assertEqual(("b", False), here(box, go(0), go(0), whole, rules("page")))

    def test_where_one_is_being_hidden_or_outside_of_the_modal(self):
        box = page("page top", "  link a press hide:x", "  part x", "    p b", "  link c press show:m", "  modal m hidden", "    p d")
        for steps, boxes in [(0, "top"), (1, "a"), (4, "c")]:
            self.assertEqual((boxes, True), here(box, *[go(0)] * steps, press("a")))
            self.assertEqual((boxes, False), here(box, *[go(0)] * steps, press("c")))
        self.assertEqual(("b", False), here(box, go(0), go(0), go(0), press("a")))
        self.assertEqual(("x", False), here(box, go(0), go(0), press("a")))
        self.assertEqual(("m", True), here(box, press("c"), go(0)))
        self.assertEqual(("d", True), here(box, press("c"), go(0), go(0)))

    def test_the_first_box_not_being_heard(self):
        self.assertEqual(("top", False), here(page("page top", "  modal m")))
        self.assertEqual(("top", False), here(page("page top", "  link a press hide:top"), press("a")))

    def test_the_other_calls_leave_one_where_one_is(self):
        box = page("page top", "  link a", "  table t", "    row r", "      th b", "      cell c", "  link d", "  h1 e")
        others = [FOCUS, tab("a"), back("a"), next_of(0, "d"), prev_of(0, "top"), next_of(3, "a"), OUTLINE, grid("t"), heads("c"),
                  move(0, "c"), sentence("c"), ESCAPE, HERE, SIZE]
        for call in others:
            with self.subTest(call=call):
                self.assertEqual(("d", True), here(box, go(3), go(3), call))

    def test_it_changes_nothing(self):
        self.assertEqual([[1, 97, 1]] * 3, ask(page("page top", "  p a"), go(0), HERE, HERE, HERE)[2:])


class Going(unittest.TestCase):
    def walk(self, call, start, number, expected, *calls):
        """Going on in a class tells these, then 0, and one stays at the last one."""
        steps = [call(number)] * (len(expected) + 1)
        given = ask(*calls, *start, *steps, HERE)
        told = [as_gone(answer) for answer in given[len(given) - len(steps) - 1:-1]]
        self.assertEqual(expected, [one[0] for one in told[:-1]])
        self.assertIsNone(told[-1])
        self.assertEqual(expected[-1] if expected else as_here(last(*calls, *start, HERE))[0], as_here(given[-1])[0])

    def test_go_in_all_seven_classes(self):
        for number, boxes in enumerate(OF_CLASS):
            with self.subTest(number=number):
                self.walk(go, [], number, [box for box in boxes if box != "top"], ALL_KINDS)

    def test_goback_in_all_seven_classes(self):
        for number, boxes in enumerate(OF_CLASS):
            with self.subTest(number=number):
                self.walk(goback, TO_THE_END, number, [box for box in boxes[::-1] if box != "n"], ALL_KINDS)

    def test_from_the_middle_to_both_sides(self):
        start = [go(0)] * 5
        for number, boxes in enumerate(OF_CLASS):
            with self.subTest(number=number):
                self.walk(go, start, number, [box for box in boxes if box != "top" and box > "e"], ALL_KINDS)
                self.walk(goback, start, number, [box for box in boxes[::-1] if box == "top" or box < "e"], ALL_KINDS)

    def test_number_by_number(self):
        box = page("page top", '  p ab "Hi"')
        self.assertEqual([1, 2, 97, 98, 9, 116, 101, 120, 116, 32, 34, 72, 105, 34], last(box, go(0)))
        self.assertEqual([1, 3, 116, 111, 112, 4, 112, 97, 103, 101], last(box, go(0), goback(0)))
        self.assertEqual([[0], [0]], ask(go(0), goback(0)))

    def test_no_class(self):
        for number in [-1, 7, 8, -2, -10 ** 18, 10 ** 18]:
            for call in (go, goback):
                with self.subTest(number=number, call=call):
                    given = ask(ALL_KINDS, go(1), go(1), call(number), HERE, go(0))
                    self.assertEqual([-2], given[3])
                    self.assertEqual(("b", True), as_here(given[4]))
                    self.assertEqual("c", as_gone(given[5])[0])

    def test_one_stays_when_there_is_none(self):
        given = ask(ALL_KINDS, go(3), go(3), HERE, goback(5), HERE, goback(3), HERE, go(4), HERE)
        self.assertEqual([[0], [1, 100, 1], [0], [1, 100, 1], [0], [1, 100, 1]], given[2:8])
        self.assertEqual("f", as_gone(given[8])[0])
        self.assertEqual(("f", True), as_here(given[9]))

    def test_only_what_is_heard(self):
        box = page("page top", "  h1 a", "    link b", "  part c hidden", "    link d", "  link e hidden", "  link f off", "  p g")
        self.walk(go, [], 0, ["a", "f", "g"], box)
        self.walk(go, [], 3, ["f"], box)
        self.walk(goback, [go(0)] * 3, 0, ["f", "a", "top"], box)

    def test_from_where_one_is_not_heard(self):
        box = page("page top", "  p a", "  link b press hide:c", "  part c", "    p d", "  p e")
        start = [go(0)] * 4 + [press("b")]
        self.assertEqual(("d", False), here(box, *start))
        self.walk(go, start, 0, ["e"], box)
        self.walk(goback, start, 0, ["b", "a", "top"], box)

    def test_into_the_modal_from_both_sides(self):
        box = page("page top", "  link a press show:m", "  modal m hidden", "    p b", "    p c", "  link d press show:m", "  p e")
        self.walk(go, [go(0), press("a")], 0, ["m", "b", "c"], box)
        self.walk(goback, [go(0), press("a")], 0, [], box)
        self.walk(go, [go(3), go(3), press("d")], 0, [], box)
        self.walk(goback, [go(3), go(3), press("d")], 0, ["c", "b", "m"], box)

    def test_those_that_take_the_focus_are_told_by_the_rules(self):
        self.walk(go, [], 2, ["e", "f", "g", "m"], ALL_KINDS, changed_rules("p text focus", "link link"))


class Said(unittest.TestCase):
    def said(self, expected, lines, *calls):
        """What's said of the first box behind the page's first."""
        box, told = as_gone(last(page("page top", *lines), *calls, go(0)))
        self.assertEqual(lines[0].split()[1], box)
        self.assertEqual(expected, told)

    def test_roles_at_first(self):
        given = ask(ALL_KINDS, *TO_THE_END, goback(1), goback(0), goback(0), goback(0))
        told = ["heading 1", "heading 2", "heading 3", "link", "button", "field", "check not on", "table", "list", "item", "image",
                "live", "text", "part"]
        self.assertEqual(told, [as_gone(answer)[1] for answer in given[1:15]])
        self.assertEqual(["heading 3", "heading 2", "heading 1", "page"], [as_gone(answer)[1] for answer in given[15:]])
        box = page("page top", "  table t", "    row r", "      cell c", "      th h")
        self.assertEqual(["table", "row", "cell", "head"], [as_gone(answer)[1] for answer in ask(box, *[go(0)] * 4)[1:]])
        self.said("modal", ["  modal m"])

    def test_roles_by_the_rules(self):
        self.said("say", ["  p a"], changed_rules("p say"))
        self.said("say 1", ["  h1 a"], changed_rules("h1 say"))
        self.said("say not on", ["  check a"], changed_rules("check say"))

    def test_levels(self):
        for level in "123":
            self.said("heading " + level + ' "Name"', ["  h" + level + ' a "Name"'])

    def test_name(self):
        self.said('part "Two words"', ['  part a label "Two words"'])
        self.said('link "B C"', ["  link a by b c", '  p b "B"', '  p c "C" hidden'])
        self.said('button "K"', ["  button a", '    p b "K"'])
        self.said("image", ["  image a"])

    def test_off(self):
        self.said('button "B" off', ['  button a "B" off'])
        self.said("text off", ["  p a off"])
        self.said("part", ["  part a", "    p b off"])
        self.said("text", ["  p a"])
        self.assertEqual(("a", "text"), as_gone(last(page("page top off", "  p a"), go(0))))

    def test_on_and_not_on(self):
        self.said("check on", ["  check a on"])
        self.said("check not on", ["  check a"])
        self.said('check "C" off on', ['  check a "C" off on'])
        self.said('check "C" off not on', ['  check a "C" off'])
        self.said("check on", ["  check a"], press("a"))
        self.said("check not on", ["  check a on"], press("a"))
        self.said("check on", ["  check a on"], press("a"), press("a"))

    def test_hint(self):
        self.said('part hint "H"', ["  part a hint b", '  p b "H"'])
        self.said('part hint "H"', ["  part a hint b", '  p b "H" hidden'])
        self.said('part "L" hint "H"', ['  part a label "L" hint b', '  p b "H"'])
        self.said("part", ["  part a hint b", "  p b"])
        self.said("part", ["  part a hint b", '  p b label "H"'])
        self.said("part", ["  part a hint b", '  part b by c hint c', '  p c "C"'])
        self.said('part hint "L"', ["  part a hint b", '  part b label "L" by c', '  p c "C"'])

    def test_hint_that_is_the_name_is_not_said_again(self):
        self.said('link "H"', ["  link a hint b", '  p b "H"'])
        self.said('link "Own" hint "H"', ['  link a "Own" hint b', '  p b "H"'])
        self.said('field "H"', ["  field a hint b", '  p b "H"'])
        self.said('field "H" text "T"', ['  field a "T" hint b', '  p b "H"'])
        self.said('field "L" hint "H"', ['  field a label "L" hint b', '  p b "H"'])

    def test_hint_that_says_the_same_as_another_source(self):
        self.said('link "H" hint "H"', ["  link a by b hint b", '  p b "H"'])
        self.said('link "H"', ["  link a by b hint b", '  p b "H"'], changed_rules("link link focus whole from hint by"))

    def test_hint_is_the_box_itself(self):
        self.said('part "L" hint "L"', ['  part a label "L" hint a'])

    def test_hint_follows_the_state(self):
        lines = ["  part a hint b", "  link b press flip:c", '    p c "C"']
        self.said('part hint "C"', lines)
        self.said("part", lines, press("b"))

    def test_text_besides(self):
        self.said('part text "T"', ['  part a "T"'])
        self.said('part "L" text "T"', ['  part a "T" label "L"'])
        self.said('part "L" text "T"', ['  part a "T" label "L"'], changed_rules("part part from label text"))

    def test_no_text_besides_of_what_is_said_whole(self):
        self.said('heading 1 "L"', ['  h1 a "T" label "L"'])
        self.said("image", ['  image a "T"'])
        self.said('link "L"', ['  link a "T" label "L"'])
        self.said('link "L" text "T"', ['  link a "T" label "L"'], changed_rules("link link from label"))
        self.said("part", ['  part a "T"'], changed_rules("part part whole"))

    def test_no_text_besides_when_the_name_comes_from_it(self):
        self.said('text "T"', ['  p a "T"'])
        self.said('text "T"', ['  p a "T" label "L"'])
        self.said('text "T"', ['  p a "T" label "L"'], changed_rules("p text from text label"))
        self.said('text "L" text "T"', ['  p a "T" label "L"'], changed_rules("p text from label text"))
        self.said('text "T" text "T"', ['  p a "T" by b', '  p b "T"'], changed_rules("p text from by text"))
        self.said('text "T" text "T"', ['  p a "T" by a'], changed_rules("p text from by text"))
        self.said('text text "T"', ['  p a "T"'], changed_rules("p text"))

    def test_all_words_in_their_order(self):
        self.said('h 2 "L l" off hint "H h" text "T t"', ['  h2 a "T t" label "L l" hint b off', '  p b "H h"'],
                  changed_rules("h2 h from label"))
        self.said('c "L" off on hint "H" text "T"', ['  check a "T" label "L" hint b off on', '  p b "H"'],
                  changed_rules("check c from label"))
        self.said('c "L" off not on hint "H" text "T"', ['  check a "T" label "L" hint b off', '  p b "H"'],
                  changed_rules("check c from label"))

    def test_hidden_order_and_acts_are_not_said(self):
        self.said('link "L"', ['  link a "L" order 3 press hide:b', "  p b"])

    def test_goback_says_likewise(self):
        box = page("page top", '  check a "C" hint b', '  p b "H"')
        self.assertEqual(("a", 'check "C" on hint "H"'), as_gone(last(box, press("a"), go(0), go(0), goback(0))))
        first = page('page top "T" label "L" hint b off', '  p b "H"')
        self.assertEqual(("top", 'page "L" off hint "H" text "T"'), as_gone(last(first, go(0), goback(0))))

    def test_a_modal_with_its_words(self):
        self.said('modal "Sure" text "T"', ['  modal a "T" by b', '    h1 b "Sure"'])


if __name__ == "__main__":
    unittest.main()
