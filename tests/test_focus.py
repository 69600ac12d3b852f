"""Promises 4, 5 and 6: focus, tab and back."""

import unittest

from tests.calling import FOCUS, as_text, as_texts, ask, back, changed_rules, last, page, press, tab


class FocusCase(unittest.TestCase):
    def order(self, expected, *calls):
        """The order of focus, and going round it both ways."""
        self.assertEqual(expected, as_texts(last(*calls, FOCUS)))
        for place, box in enumerate(expected):
            before = expected[place - 1]
            self.assertEqual(box, as_text(last(*calls, tab(before))))
            self.assertEqual(before, as_text(last(*calls, back(box))))


class Order(FocusCase):
    def test_without_numbers(self):
        self.order(["a", "b", "c", "d"], page("page top", "  link a", "  p x", "  button b", "  field c", "  check d", "  h1 y"))

    def test_with_numbers(self):
        self.order(["d", "b", "c", "a", "e"],
                   page("page top", "  link a", "  link b order 2", "  link c order 9", "  link d order 1", "  link e"))

    def test_alike_numbers_as_they_stand(self):
        self.order(["b", "d", "a", "c", "e"],
                   page("page top", "  link a order 3", "  link b order 2", "  link c order 3", "  link d order 2", "  link e"))

    def test_deeper_ones_as_they_stand(self):
        self.order(["a", "b", "c"], page("page top", "  part x", "    link a", "      link b", "  link c"))

    def test_one_alone(self):
        self.order(["a"], page("page top", "  link a"))

    def test_none(self):
        self.assertEqual([0], last(page("page top", "  p a order 1"), FOCUS))
        self.assertEqual([0], last(FOCUS))

    def test_off_is_passed_over(self):
        self.order(["a", "c"], page("page top", "  link a", "  link b off order 1", "  link c"))
        self.order(["a"], page("page top off", "  part x off", "    link a"))

    def test_hidden_is_passed_over(self):
        self.order(["a", "e"], page("page top", "  link a", "  link b hidden", "  part x hidden", "    part y", "      link c",
                                    "    link d order 1", "  link e"))

    def test_after_a_press(self):
        box = page("page top", "  link a press flip:x flip:b", "  link b", "  part x hidden", "    link c order 4")
        self.order(["a", "b"], box)
        self.order(["c", "a"], box, press("a"))
        self.order(["a", "b"], box, press("a"), press("a"))

    def test_within_whole_kinds(self):
        self.order(["a", "b"], page("page top", "  link a", "    link b"))

    def test_kinds_that_take_it_by_the_rules(self):
        box = page("page top order 2", "  link a", "  p b", "  h1 c order 1")
        self.order(["c", "top", "b"], box, changed_rules("page page focus", "p text focus", "h1 heading focus", "link link"))


class Modals(FocusCase):
    def test_only_what_is_in_it(self):
        self.order(["c", "b"], page("page top", "  link a order 1", "  modal m", "    link b", "    part x", "      link c order 9",
                                    "  link d"))

    def test_not_the_modal_itself(self):
        box = page("page top", "  modal m", "    modal n", "      link a", "    link b")
        self.order(["a"], box, changed_rules("modal modal focus"))
        self.assertEqual([-6], last(changed_rules("modal modal focus"), box, tab("n")))

    def test_a_modal_within_may_take_it(self):
        box = page("page top", "  modal m", "    modal n hidden", "    link b")
        self.order(["b"], box, changed_rules("modal modal focus"))

    def test_hidden_modal(self):
        self.order(["a"], page("page top", "  link a", "  modal m hidden", "    link b"))


class Refusals(unittest.TestCase):
    def both(self, expected, name, *calls):
        for call in (tab(name), back(name)):
            with self.subTest(call=call):
                self.assertEqual(expected, last(*calls, call))

    def test_no_such_box(self):
        for name in ["", "b", "A", "a ", "order", "\xe1", "a" * 4000]:
            self.both([-3], name, page("page top", "  link a"))

    def test_does_not_take_the_focus_now(self):
        box = page("page top", "  p a", "  link b off", "  link c hidden", "  part x hidden", "    link d", "  link e")
        for name in ["top", "a", "b", "c", "d", "x"]:
            self.both([-6], name, box)

    def test_outside_of_the_modal(self):
        box = page("page top", "  link a", "  modal m", "    link b", "  link c")
        for name in ["a", "m", "c"]:
            self.both([-6], name, box)

    def test_moving_changes_nothing(self):
        box = page("page top", "  link a", "  link b", "  link c")
        given = ask(box, tab("a"), tab("a"), back("a"), back("x"), tab("c"), FOCUS)
        self.assertEqual([[4], [1, 98], [1, 98], [1, 99], [-3], [1, 97]], given[:6])
        self.assertEqual(["a", "b", "c"], as_texts(given[6]))


if __name__ == "__main__":
    unittest.main()
