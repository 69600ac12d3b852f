"""Promise 14: escape."""

import unittest

from tests.calling import ESCAPE, FOCUS, HERE, SIZE, as_escape, ask, changed_rules, go, last, page, press


class Escape(unittest.TestCase):
    def escape(self, expected, *calls):
        self.assertEqual(expected, as_escape(last(*calls, ESCAPE)))

    def test_no_modal(self):
        self.escape(None)
        self.assertEqual([0], last(ESCAPE))
        self.assertEqual([0], last(page("page top", "  modal m hidden", "    button a press hide:m"), ESCAPE))
        self.escape(None, page("page top", "  part x hidden", "    modal m", "      button a press hide:m"))

    def test_number_by_number(self):
        box = page("page top", "  modal mo", "    button ab press hide:mo", "    link c press hide:mo")
        self.assertEqual([1, 2, 109, 111, 2, 2, 97, 98, 1, 99], last(box, ESCAPE))
        self.assertEqual([1, 1, 109, 0], last(page("page top", "  modal m"), ESCAPE))

    def test_those_that_lead_out_in_order(self):
        box = page("page top", "  modal m", "    button a press hide:m", "    link b press show:m", "    check c press flip:m",
                   "    part d", "      link e order 1 press hide:m", "    check f", "    link g", "    p h")
        self.escape(("m", ["a", "c", "e"]), box)

    def test_acts_one_after_the_other(self):
        box = page("page top", "  modal m", "    button a press hide:m show:m", "    button b press show:m hide:m",
                   "    button c press flip:m flip:m", "    button d press flip:m flip:m flip:m", "    button e press hide:m flip:m",
                   "    button f press hide:a hide:b hide:m", "    button g press hide:a")
        self.escape(("m", ["b", "d", "f"]), box)

    def test_a_box_around_the_modal_that_is_hidden(self):
        box = page("page top", "  part x", "    part y", "      modal m", "        button a press hide:x",
                   "        button b press flip:y", "        button c press hide:top", "        button d press hide:z", "  part z",
                   "    p w")
        self.escape(("m", ["a", "b", "c"]), box)

    def test_only_those_that_can_be_pressed(self):
        box = page("page top", "  button a press hide:m", "  modal m", "    button b off press hide:m", "    button c hidden press hide:m",
                   "    part x hidden", "      button d press hide:m", "    part y off", "      button e press hide:m",
                   "  button f press hide:m")
        self.escape(("m", ["e"]), box)

    def test_those_in_whole_boxes_too(self):
        self.escape(("m", ["a", "b"]), page("page top", "  modal m", "    link a press hide:m", "      link b press hide:m"))

    def test_the_focus_is_not_asked(self):
        self.escape(("m", ["a"]), changed_rules("link link"), page("page top", "  modal m", "    link a press hide:m"))

    def test_several_modals(self):
        box = page("page top", "  modal m", "    button a press hide:m", "    button b press hide:n", "  modal n",
                   "    button c press hide:n", "    button d press hide:m", "    button e press show:o", "  modal o hidden",
                   "    button f press hide:o")
        self.escape(("n", ["c"]), box)
        self.escape(("o", ["f"]), box, press("e"))
        self.escape(("n", ["c"]), box, press("e"), press("f"))
        self.escape(("m", ["a"]), box, press("c"))
        self.escape(None, box, press("c"), press("a"))

    def test_another_modal_that_comes_up_does_not_hide_this_one(self):
        box = page("page top", "  modal m", "    button a press show:n", "    button b press hide:m show:n", "  modal n hidden")
        self.escape(("m", ["b"]), box)

    def test_a_modal_in_a_modal(self):
        box = page("page top", "  modal m", "    button a press hide:m", "    modal n", "      button b press hide:n",
                   "      button c press hide:m", "      check d")
        self.escape(("n", ["b", "c"]), box)
        self.escape(("m", ["a"]), box, press("b"))
        self.escape(None, box, press("c"))

    def test_a_modal_that_is_not_heard(self):
        self.escape(("m", ["b"]), page("page top", "  link a", "    modal m", "      link b press hide:m"))

    def test_it_leaves_everything_as_it_was(self):
        box = page("page top", '  h1 t "T"', "  link x press show:m", "  modal m hidden", "    check a press hide:m hide:t",
                   "    check b on press flip:m", "    check c press flip:t")
        ways = (FOCUS, SIZE, HERE, ESCAPE)
        before = ask(box, go(3), press("x"), *ways)[-4:]
        given = ask(box, go(3), press("x"), ESCAPE, ESCAPE, *ways, press("c"))
        self.assertEqual(before, given[-5:-1])
        self.assertEqual(given[3], given[4])
        self.assertEqual([1, 2], given[-1])

    def test_it_holds_what_it_tells(self):
        box = page("page top", "  modal m", "    button a press hide:m", "    check b press flip:m", "    button c press flip:b")
        for name in ["a", "b"]:
            self.escape(None, box, press(name))
        self.escape(("m", ["a"]), box, press("c"))


if __name__ == "__main__":
    unittest.main()
