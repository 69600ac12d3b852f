"""Promises 7, 8 and 18: next, prev and size; what's heard, and the classes."""

import unittest

from tests.calling import SIZE, as_found, ask, changed_rules, last, next_of, page, press, prev_of

ALL_KINDS = page("page top", "  h1 a", "  h2 b", "  h3 c", "  link d", "  button e", "  field f", "  check g", "  table h",
                 "  list i", "    item j", "  image k", "  live l", "  p m", "  part n")


class HearingCase(unittest.TestCase):
    def heard(self, boxes, number, expected, *calls):
        """Going through all boxes of a page, by next and by prev, tells these."""
        for place, box in enumerate(boxes):
            behind = [other for other in boxes[place + 1:] if other in expected]
            before = [other for other in boxes[:place] if other in expected]
            self.assertEqual(behind[0] if behind else None, as_found(last(*calls, next_of(number, box))))
            self.assertEqual(before[-1] if before else None, as_found(last(*calls, prev_of(number, box))))


class Classes(HearingCase):
    def test_all_seven(self):
        boxes = ["top"] + list("abcdefghijklmn")
        for number, expected in enumerate([boxes, list("abc"), list("defg"), ["d"], list("fg"), ["h"], ["i"]]):
            with self.subTest(number=number):
                self.heard(boxes, number, expected, ALL_KINDS)

    def test_those_that_take_the_focus_are_told_by_the_rules(self):
        changed = changed_rules("p text focus", "link link", "page page focus")
        self.heard(["top"] + list("abcdefghijklmn"), 2, ["top"] + list("efgm"), ALL_KINDS, changed)

    def test_off_ones_are_of_the_class(self):
        self.heard(["top", "a", "b"], 2, ["a", "b"], page("page top", "  link a off", "  field b off"))


class Refusals(unittest.TestCase):
    def both(self, expected, number, name):
        box = page("page top", "  p a", "  p b")
        for call in (next_of(number, name), prev_of(number, name)):
            with self.subTest(call=call):
                self.assertEqual(expected, last(box, call))

    def test_no_class(self):
        for number in [-1, 7, 8, -10 ** 18, 10 ** 18]:
            self.both([-2], number, "a")

    def test_no_such_box(self):
        for name in ["", "c", "A", "hidden", "\0", "a" * 4000]:
            for number in [0, 6]:
                self.both([-3], number, name)

    def test_the_class_is_looked_at_first(self):
        self.both([-2], 7, "c")
        self.both([-2], -1, "")


class Heard(HearingCase):
    def test_none(self):
        self.assertEqual([[0], [0]], ask(next_of(0, "top"), prev_of(0, "top")))

    def test_hidden_ones_and_those_in_them(self):
        box = page("page top", "  p a", "  p b hidden", "  part c hidden", "    part d", "      p e", "  p f")
        self.heard(["top", "a", "b", "c", "d", "e", "f"], 0, ["top", "a", "f"], box)
        self.assertEqual([3, 0, 0], last(box, SIZE))

    def test_those_in_whole_ones(self):
        box = page("page top", "  h1 a", "    part b", "      link c", "    h2 d", "  part e", "    h3 f", "  image g", "    p h")
        self.heard(["top", "a", "b", "c", "d", "e", "f", "g", "h"], 0, ["top", "a", "e", "f", "g"], box)
        self.heard(["top", "a", "b", "c", "d", "e", "f", "g", "h"], 1, ["a", "f"], box)
        self.assertEqual([5, 1, 2], last(box, SIZE))

    def test_each_whole_kind_at_first(self):
        kinds = {"part": 0, "h1": 1, "h2": 1, "h3": 1, "p": 0, "link": 1, "button": 1, "field": 0, "check": 1, "image": 1,
                 "live": 0, "modal": 0}
        for kind, whole in kinds.items():
            with self.subTest(kind=kind):
                count = 1 if kind == "modal" else 0
                box = page("page top", "  " + kind + " a", "    p b")
                self.assertEqual(3 - whole - count, last(box, SIZE)[0])
        self.assertEqual(4, last(page("page top", "  list a", "    item b", "      p c"), SIZE)[0])
        self.assertEqual(5, last(page("page top", "  table a", "    row b", "      cell c", "        p d"), SIZE)[0])
        self.assertEqual(4, last(page("page top", "  table a", "    row b", "      th c", "        p d"), SIZE)[0])

    def test_whole_by_the_rules(self):
        box = page("page top", "  h1 a", "    p b", "  part c", "    p d")
        changed = changed_rules("h1 heading", "part part whole")
        self.heard(["top", "a", "b", "c", "d"], 0, ["top", "a", "b", "c"], box, changed)
        self.assertEqual([1, 0, 0], last(box, changed_rules("page page whole"), SIZE))

    def test_a_whole_hidden_one(self):
        self.assertEqual([1, 0, 0], last(page("page top", "  h1 a hidden", "    p b"), SIZE))

    def test_the_modal_and_what_is_in_it(self):
        box = page("page top", "  p a", "  modal m", "    p b", "    part c", "      p d", "    p e hidden", "  p f")
        self.heard(["top", "a", "m", "b", "c", "d", "e", "f"], 0, ["m", "b", "c", "d"], box)

    def test_the_last_visible_modal(self):
        box = page("page top", "  modal m", "    p a", "  modal n", "    p b", "  modal o hidden", "    p c")
        self.heard(["top", "m", "a", "n", "b", "o", "c"], 0, ["n", "b"], box)
        inner = page("page top", "  modal m", "    p a", "    modal n", "      p b", "    p c")
        self.heard(["top", "m", "a", "n", "b", "c"], 0, ["n", "b"], inner)

    def test_a_modal_in_a_whole_one_is_the_modal_but_not_heard(self):
        box = page("page top", "  link a", "    modal m", "      link b", "  p c")
        self.heard(["top", "a", "m", "b", "c"], 0, [], box)
        self.assertEqual([0, 1, 0], last(box, SIZE))

    def test_after_a_press(self):
        box = page("page top", "  link a press hide:b show:m", "  p b", "  modal m hidden", "    button c press hide:m")
        boxes = ["top", "a", "b", "m", "c"]
        self.heard(boxes, 0, ["top", "a", "b"], box)
        self.heard(boxes, 0, ["m", "c"], box, press("a"))
        self.heard(boxes, 0, ["top", "a"], box, press("a"), press("c"))

    def test_the_first_box_may_be_hidden_by_a_press(self):
        box = page("page top", "  link a press hide:top", "  p b")
        self.heard(["top", "a", "b"], 0, [], box, press("a"))
        self.assertEqual([0, 0, 0], last(box, press("a"), SIZE))


class Size(unittest.TestCase):
    def test_new(self):
        self.assertEqual([1, 0, 0], last(SIZE))

    def test_three_numbers(self):
        self.assertEqual([15, 4, 3], last(ALL_KINDS, SIZE))
        self.assertEqual([4, 1, 1], last(page("page top", "  link a off", "  link b", "  h3 c", "  h1 d hidden"), SIZE))

    def test_focus_within_whole_ones_counts(self):
        self.assertEqual([2, 1, 1], last(page("page top", "  h1 a", "    link b"), SIZE))

    def test_modal(self):
        self.assertEqual([3, 1, 1], last(page("page top", "  h1 a", "  link b", "  modal m", "    h2 c", "    link d"), SIZE))


if __name__ == "__main__":
    unittest.main()
