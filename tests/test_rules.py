"""Promise 2: rules."""

import unittest

from tests.calling import (FIRST_RULES, FOCUS, OUTLINE, SIZE, as_outline, as_texts, ask, changed_rules, last, page, press,
                           rules, rules_text)


class RulesCase(unittest.TestCase):
    def taken(self, count, *changed):
        with self.subTest(changed=changed):
            self.assertEqual([[count]], ask(changed_rules(*changed)))

    def refused(self, *lines):
        with self.subTest(lines=lines):
            self.assertEqual([[-1]], ask(rules(*lines)))

    def line_refused(self, changed):
        with self.subTest(changed=changed):
            self.assertEqual([[-1]], ask(changed_rules(changed)))


class Forms(RulesCase):
    def test_how_many_take_the_focus(self):
        self.taken(4)
        self.taken(5, "p text focus")
        self.taken(3, "link link whole")
        self.assertEqual([[0]], ask(rules(*[line.split(" ")[0] + " x" for line in FIRST_RULES])))
        self.assertEqual([[19]], ask(rules(*[line.split(" ")[0] + " x focus" for line in FIRST_RULES])))

    def test_whole_text(self):
        whole = "".join(line + "\n" for line in FIRST_RULES)
        self.assertEqual([[4]], ask(rules_text(whole)))
        for text in ["", "\n", whole[:-1], whole + "\n", "\n" + whole, whole.replace("\n", "\r\n"), whole.replace(" ", "\t"),
                     whole + whole, whole + "\xff", "page page\n"]:
            with self.subTest(text=text):
                self.assertEqual([[-1]], ask(rules_text(text)))

    def test_a_line_for_each_kind_in_their_order(self):
        self.refused(*FIRST_RULES[:-1])
        self.refused(*FIRST_RULES[1:])
        self.refused(*(FIRST_RULES + ["modal modal"]))
        self.refused(*(FIRST_RULES[:5] + FIRST_RULES[6:] + ["p text"]))
        for place in range(18):
            swapped = list(FIRST_RULES)
            swapped[place], swapped[place + 1] = FIRST_RULES[place + 1], FIRST_RULES[place]
            self.refused(*swapped)
        for line in ["pages page", "page", "role", "role from by label", "Page page", "top page"]:
            self.refused(*([line] + FIRST_RULES[1:]))

    def test_role(self):
        for role in ["a", "abcdefgh", "by", "label", "text", "kids", "hint", "on", "hidden", "page"]:
            self.taken(4, "p " + role)
        for line in ["p", "p ", "p abcdefghi", "p Text", "p t1", "p 1", 'p "text"', "p a:b", "p \xe4", "p focus", "p whole",
                     "p from", "p focus focus", "p from text"]:
            self.line_refused(line)

    def test_words_in_order(self):
        self.taken(5, "p text focus whole from text")
        self.taken(5, "p text focus from text")
        self.taken(4, "p text whole")
        for line in ["p text whole focus", "p text from text whole", "p text from text focus", "p text focus focus",
                     "p text whole whole", "p text from text from by", "p text text", "p text by", "p text Focus"]:
            self.line_refused(line)

    def test_sources(self):
        self.taken(4, "p text from by label text kids hint")
        self.taken(4, "p text from hint kids text label by")
        for line in ["p text from", "p text from ", "p text from by by", "p text from by text by", "p text from name",
                     "p text from Text", "p text from role", "p text from text from"]:
            self.line_refused(line)

    def test_blanks(self):
        for line in [" p text", "  p text", "p  text", "p text ", "p text  focus", "p text from  by", "p text from by "]:
            self.line_refused(line)


class TurningTo(unittest.TestCase):
    def test_rules_at_first(self):
        box = page("page top", "  p a", "  link b", "  button c", "  field d", "  check e", "  image f", "  modal g hidden")
        self.assertEqual(["b", "c", "d", "e"], as_texts(last(box, FOCUS)))
        for call in (FOCUS, SIZE, OUTLINE):
            self.assertEqual(last(box, call), last(changed_rules(), box, call))

    def test_they_are_the_rules_from_now_on(self):
        box = page("page top", "  p a", "  link b", '  h1 c "C" label "D"')
        given = ask(box, changed_rules("p text focus", "link link"), FOCUS, changed_rules("h1 heading from text label"),
                    FOCUS, OUTLINE)
        self.assertEqual([[4], [4]], given[:2])
        self.assertEqual(["a"], as_texts(given[2]))
        self.assertEqual([4], given[3])
        self.assertEqual(["b"], as_texts(given[4]))
        self.assertEqual([(1, "c", "C")], as_outline(given[5]))

    def test_they_stay_with_another_page(self):
        self.assertEqual(["a"], as_texts(last(changed_rules("p text focus"), page("page top", "  p a"), FOCUS)))

    def test_the_state_stays(self):
        box = page("page top", "  check a press hide:b", "  p b")
        self.assertEqual([[3], [1, 1], [4], [1, 0]], ask(box, press("a"), changed_rules(), press("a")))

    def test_refused_leaves_all_as_it_was(self):
        given = ask(changed_rules("p text focus"), page("page top", "  p a"), changed_rules("p focus"), FOCUS)
        self.assertEqual([[5], [2], [-1]], given[:3])
        self.assertEqual(["a"], as_texts(given[3]))


if __name__ == "__main__":
    unittest.main()
