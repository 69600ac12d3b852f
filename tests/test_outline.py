"""Promise 9: outline; and the names of boxes."""

import unittest

from tests.calling import OUTLINE, as_outline, ask, changed_rules, last, page, press


class OutlineCase(unittest.TestCase):
    def name(self, expected, sources, *lines):
        """The name of the h1 that stands first, by these sources."""
        changed = changed_rules("h1 heading from " + sources if sources else "h1 heading")
        told = as_outline(last(changed, page("page top", *lines), OUTLINE))
        self.assertEqual(expected, told[0][2])


class Headings(unittest.TestCase):
    def test_none(self):
        self.assertEqual([[0]], ask(OUTLINE))
        self.assertEqual([0], last(page("page top", "  p a"), OUTLINE))

    def test_levels_ids_and_names_in_order(self):
        box = page("page top", '  h3 a "Third"', '  h1 b label "First one"', "  h2 c")
        self.assertEqual([(3, "a", "Third"), (1, "b", "First one"), (2, "c", "")], as_outline(last(box, OUTLINE)))

    def test_number_by_number(self):
        self.assertEqual([2, 1, 1, 97, 2, 72, 105, 2, 1, 98, 0], last(page("page top", '  h1 a "Hi"', "  h2 b"), OUTLINE))

    def test_only_those_that_are_heard(self):
        box = page("page top", "  h1 a hidden", "  part x hidden", "    h1 b", "  link y", "    h1 c", '  h1 d "D"')
        self.assertEqual([(1, "d", "D")], as_outline(last(box, OUTLINE)))

    def test_modal(self):
        box = page("page top", "  h1 a", "  modal m", '    h2 b "B"', "  h3 c")
        self.assertEqual([(2, "b", "B")], as_outline(last(box, OUTLINE)))


class Sources(OutlineCase):
    def test_label(self):
        self.name("La bel", "label", '  h1 a "Text" label "La bel"')
        self.name("", "label", '  h1 a "Text"')

    def test_text(self):
        self.name("Text", "text", '  h1 a "Text" label "Label"')
        self.name("", "text", '  h1 a label "Label"')

    def test_no_sources(self):
        self.name("", "", '  h1 a "Text" label "Label" by b hint b', '  p b "Other"')

    def test_by(self):
        self.name("B", "by", "  h1 a by b", '  p b "B"')
        self.name("D B C", "by", "  h1 a by d b c", '  p b "B"', '  p c "C"', '  p d "D"')
        self.name("D C", "by", "  h1 a by d b c", "  p b", '  p c "C"', '  p d "D"')
        self.name("", "by", "  h1 a by b", '  p b label "B"')
        self.name("", "by", '  h1 a "Text"')

    def test_by_hidden_ones(self):
        self.name("B C", "by", "  h1 a by b c", '  p b "B" hidden', "  part x hidden", '    p c "C"')

    def test_by_itself(self):
        self.name("Own B", "by text", '  h1 a "Own" by a b', '  p b "B"')
        self.name("", "by", '  h1 a "Own" by a')

    def test_by_gives_inner_names(self):
        self.name("Own", "by text", "  h1 a by b", '  h2 b "Own" by c hint c', '  p c "C"')
        self.name("", "by", "  h1 a by b", '  h2 b by c', '  p c "C"')
        self.name("", "by", "  h1 a by b", '  link b hint c', '  p c "C"')

    def test_hint(self):
        self.name("B", "hint", "  h1 a hint b", '  p b "B"')
        self.name("B", "hint", "  h1 a hint b", '  p b "B" hidden')
        self.name("", "hint", "  h1 a hint b", "  p b")
        self.name("", "hint", '  h1 a "Text"')
        self.name("", "hint", "  h1 a hint b", '  h2 b by c hint c', '  p c "C"')
        self.name("Own", "hint text", '  h1 a "Own" hint a')

    def test_kids(self):
        self.name("B C", "kids", "  h1 a", '    p b "B"', '    p c "C"')
        self.name("B D", "kids", "  h1 a", '    p b "B"', "    p c", '    p d "D"')
        self.name("", "kids", "  h1 a", '  p b "B"')

    def test_kids_are_own_boxes(self):
        self.name("B", "kids", "  h1 a", '    p b "B"', '      p c "C"')
        self.name("", "kids", "  h1 a", "    part b", '      p c "C"')

    def test_kids_that_are_hidden_themselves(self):
        self.name("B D", "kids", "  h1 a", '    p b "B"', '    p c "C" hidden', '    p d "D"')

    def test_kids_in_a_hidden_one_that_is_named(self):
        self.name("B", "by", "  h1 a by c", "  h2 c hidden", '    p b "B"')

    def test_kids_of_kids(self):
        self.name("C D E", "kids", "  h1 a", "    h2 b", '      p c "C"', "      h3 d", '        p x "D"', '    p e "E"')
        self.name("B E", "kids", "  h1 a", '    h2 b "B"', '      p c "C"', '    p e "E"')

    def test_kids_down_to_the_deepest(self):
        self.name("E", "kids", "  h1 a", "    h2 b", "      h2 c", "        h2 d", '          p e "E"')

    def test_kids_give_inner_names(self):
        self.name("C", "kids", "  h1 a", "    h2 b by x hint x", '      p c "C"', '  p x "X"')
        self.name("", "kids", "  h1 a", "    link b by x hint x", '  p x "X"')


class Orders(OutlineCase):
    LINES = ['  h1 a "Text" label "Label" by x hint y', '    p k "Kids"', '  p x "By"', '  p y "Hint"']

    def test_the_first_that_gives_something(self):
        for sources, expected in [("by label text kids hint", "By"), ("label by text kids hint", "Label"),
                                  ("text by label", "Text"), ("kids hint text", "Kids"), ("hint kids by", "Hint")]:
            with self.subTest(sources=sources):
                self.name(expected, sources, *self.LINES)

    def test_those_that_give_nothing_are_passed_over(self):
        sources = "by label text kids hint"
        self.name("Label", sources, '  h1 a "Text" label "Label" by x hint y', '    p k "Kids"', "  p x", '  p y "Hint"')
        self.name("Text", sources, '  h1 a "Text" by x hint y', '    p k "Kids"', "  p x", '  p y "Hint"')
        self.name("Kids", sources, "  h1 a by x hint y", '    p k "Kids"', "  p x", '  p y "Hint"')
        self.name("Hint", sources, "  h1 a by x hint y", "    p k", "  p x", '  p y "Hint"')
        self.name("", sources, "  h1 a by x hint y", "    p k", "  p x", "  p y")

    def test_inner_names_have_the_order_of_their_own_kind(self):
        lines = ["  h1 a by b", '  h2 b "Text" label "Label"', '    p c "Kids"']
        for sources, expected in [("text label", "Text"), ("label text", "Label"), ("by hint kids text", "Kids"), ("by", "")]:
            with self.subTest(sources=sources):
                changed = changed_rules("h2 heading from " + sources)
                self.assertEqual(expected, as_outline(last(changed, page("page top", *lines), OUTLINE))[0][2])

    def test_headings_at_first(self):
        for kind in ["h1", "h2", "h3"]:
            for lines, expected in [
                (['  h1 a "Text" label "Label" by x', '    p k "Kids"', '  p x "By"'], "By"),
                (['  h1 a "Text" label "Label" by x', '    p k "Kids"', "  p x"], "Label"),
                (['  h1 a "Text"', '    p k "Kids"'], "Text"),
                (["  h1 a hint x", '    p k "Kids"', '  p x "Hint"'], "Kids"),
                (["  h1 a hint x", '  p x "Hint"'], ""),
            ]:
                with self.subTest(kind=kind, lines=lines):
                    lines = [lines[0].replace("h1", kind)] + lines[1:]
                    self.assertEqual([(int(kind[1]), "a", expected)], as_outline(last(page("page top", *lines), OUTLINE)))

    def test_inner_names_of_each_kind_at_first(self):
        attributes = ' b "Text" label "Label" by x hint x'
        for kind, expected in [("part", "Label"), ("h1", "Label"), ("h2", "Label"), ("h3", "Label"), ("p", "Text"),
                               ("link", "Label"), ("button", "Label"), ("field", "Label"), ("check", "Label"),
                               ("list", "Label"), ("table", "Label"), ("image", "Label"), ("live", "Label"),
                               ("modal", "Label")]:
            hidden = " hidden"
            with self.subTest(kind=kind):
                box = page("page top", "  h1 a by b", "  " + kind + attributes + hidden, '  p x "X"')
                self.assertEqual(expected, as_outline(last(box, OUTLINE))[0][2])
        for kind, expected in [("part", ""), ("h1", "Text"), ("p", "Text"), ("link", "Text"), ("button", "Text"),
                               ("field", ""), ("check", "Text"), ("list", ""), ("table", ""), ("image", ""), ("live", "")]:
            with self.subTest(kind=kind):
                box = page("page top", "  h1 a by b", "  " + kind + ' b "Text"')
                self.assertEqual(expected, as_outline(last(box, OUTLINE))[0][2])

    def test_inner_names_of_held_kinds_at_first(self):
        box = page("page top", '  h1 a by r c h', '  h2 b by i j p', "  table t", '    row r "R" label "L"', '      cell c "C" label "L"',
                   '      th h "H" label "M"', "  list l", '    item i "I" label "N"', '    item j "J"', "    item p", '      p q "Q"')
        self.assertEqual([(1, "a", "C M"), (2, "b", "N J")], as_outline(last(box, OUTLINE)))

    def test_names_follow_the_state(self):
        box = page("page top", "  link x press flip:b", "  h1 a", '    p b "B"', '    p c "C"')
        self.assertEqual([(1, "a", "B C")], as_outline(last(box, OUTLINE)))
        self.assertEqual([(1, "a", "C")], as_outline(last(box, press("x"), OUTLINE)))


if __name__ == "__main__":
    unittest.main()
