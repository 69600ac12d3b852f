"""Promise 3: press; and the states of a page."""

import unittest

from tests.calling import FOCUS, SIZE, as_texts, ask, changed_rules, last, page, press


class Refusals(unittest.TestCase):
    def test_no_such_box(self):
        box = page("page top", "  check a")
        for name in ["", "b", "A", "aa", "a ", "label", "a\n", "\xff", "a" * 4000]:
            with self.subTest(name=name):
                self.assertEqual([-3], last(box, press(name)))

    def test_does_not_do_anything(self):
        box = page("page top", "  link a", "  button b", "  p c off", "  modal d hidden", "  field e")
        for name in ["top", "a", "b", "c", "d", "e"]:
            with self.subTest(name=name):
                self.assertEqual([-5], last(box, press(name)))

    def test_nothing_done_is_looked_at_before_what_can_be_pressed(self):
        self.assertEqual([-5], last(page("page top", "  link a hidden off"), press("a")))
        self.assertEqual([-6], last(page("page top", "  link a hidden off press show:a"), press("a")))

    def test_off(self):
        self.assertEqual([-6], last(page("page top", "  check a off"), press("a")))
        self.assertEqual([-6], last(page("page top", "  link a off press hide:a"), press("a")))

    def test_what_is_around_may_be_off(self):
        self.assertEqual([0, 1], last(page("page top off", "  part b off", "    check a"), press("a")))

    def test_hidden_or_in_a_hidden_one(self):
        self.assertEqual([-6], last(page("page top", "  check a hidden"), press("a")))
        self.assertEqual([-6], last(page("page top", "  part b hidden", "    check a"), press("a")))
        self.assertEqual([-6], last(page("page top", "  part b hidden", "    part c", "      check a"), press("a")))
        self.assertEqual([1, 1], last(page("page top", "  part b hidden", "  check a"), press("a")))

    def test_outside_of_the_modal(self):
        box = page("page top", "  check a", "  modal m", "    check b", "    part c", "      check d", "  check e")
        self.assertEqual([[7], [-6], [0, 1], [0, 2], [-6]], ask(box, press("a"), press("b"), press("d"), press("e")))

    def test_refused_leaves_all_as_it_was(self):
        box = page("page top", "  check a off press hide:b", "  check b")
        self.assertEqual([[3], [-6], [3, 1, 0], [0, 1]], ask(box, press("a"), SIZE, press("b")))


class Pressing(unittest.TestCase):
    def test_a_check_goes_on_and_off(self):
        box = page("page top", "  check a", "  check b on")
        self.assertEqual([[3], [0, 2], [0, 1], [0, 0]], ask(box, press("a"), press("a"), press("b")))

    def test_show_hide_flip(self):
        box = page("page top", "  link a press show:x", "  link b press hide:x", "  button c press flip:x", "  p x", "  p y hidden")
        self.assertEqual([[6], [1, 0], [2, 0], [2, 0], [1, 0], [2, 0], [1, 0]],
                         ask(box, press("a"), press("b"), press("b"), press("a"), press("c"), press("c")))

    def test_acts_are_done_one_after_the_other(self):
        self.assertEqual([0, 0], last(page("page top", "  link a press hide:x show:x", "  p x"), press("a")))
        self.assertEqual([1, 0], last(page("page top", "  link a press show:x hide:x", "  p x"), press("a")))
        self.assertEqual([1, 0], last(page("page top", "  link a press show:x flip:x", "  p x"), press("a")))
        self.assertEqual([0, 0], last(page("page top", "  link a press flip:x flip:x", "  p x"), press("a")))
        self.assertEqual([1, 0], last(page("page top", "  link a press flip:x flip:x flip:x", "  p x"), press("a")))
        self.assertEqual([3, 0], last(page("page top", "  link a press hide:x hide:y hide:z", "  p x", "  p y", "  p z"), press("a")))

    def test_a_check_with_acts(self):
        box = page("page top", "  check a press flip:x", "  p x")
        self.assertEqual([[3], [1, 1], [0, 0]], ask(box, press("a"), press("a")))

    def test_hidden_ones_are_counted_themselves_alone(self):
        box = page("page top", "  link a press hide:b", "  part b", "    p c", "    p d hidden")
        self.assertEqual([2, 0], last(box, press("a")))

    def test_hidden_checks_stay_on(self):
        self.assertEqual([1, 1], last(page("page top", "  check a on press hide:b", "  check b on"), press("a")))

    def test_it_hides_itself_or_the_page(self):
        self.assertEqual([[2], [1, 0], [-6]], ask(page("page top", "  link a press hide:a"), press("a"), press("a")))
        self.assertEqual([[2], [1, 0], [-6], [0, 0, 0]], ask(page("page top", "  link a press hide:top"), press("a"), press("a"), SIZE))

    def test_a_check_need_not_take_the_focus(self):
        self.assertEqual([0, 1], last(changed_rules("check check"), page("page top", "  check a"), press("a")))


class Modals(unittest.TestCase):
    def test_a_modal_that_is_shown_and_left(self):
        box = page("page top", "  link a press show:m", "  modal m hidden", "    button b press hide:m")
        self.assertEqual([[4], [-6], [0, 0], [-6], [1, 0], [0, 0]],
                         ask(box, press("b"), press("a"), press("a"), press("b"), press("a")))

    def test_the_last_visible_one(self):
        box = page("page top", "  modal m", "    check a", "  modal n", "    check b", "  modal o hidden", "    check c")
        self.assertEqual([[7], [-6], [1, 1], [-6]], ask(box, press("a"), press("b"), press("c")))

    def test_a_modal_in_a_hidden_box_is_none(self):
        box = page("page top", "  check a", "  part b hidden", "    modal m", "      check c")
        self.assertEqual([[5], [1, 1], [-6]], ask(box, press("a"), press("c")))

    def test_a_modal_in_a_modal(self):
        box = page("page top", "  modal m", "    check a", "    modal n", "      check b", "    check c")
        self.assertEqual([[6], [-6], [0, 1], [-6]], ask(box, press("a"), press("b"), press("c")))

    def test_the_modal_shown_last_is_not_the_last_one(self):
        box = page("page top", "  modal m hidden", "    check a", "  modal n", "    check b press show:m", "  link d")
        given = ask(box, press("b"), press("a"), FOCUS)
        self.assertEqual([[6], [0, 1], [-6]], given[:3])
        self.assertEqual(["b"], as_texts(given[3]))


if __name__ == "__main__":
    unittest.main()
