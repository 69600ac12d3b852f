"""Promise 1: page."""

import unittest

from tests.calling import FOCUS, OUTLINE, SIZE, ask, as_outline, as_texts, last, next_of, page, page_text, press, tab

KINDS = ["page", "part", "h1", "h2", "h3", "p", "link", "button", "field", "check",
         "list", "item", "table", "row", "cell", "th", "image", "live", "modal"]
RESERVED = ["label", "by", "hint", "hidden", "off", "on", "order", "press"]
FREE = [kind for kind in KINDS if kind not in ("page", "row", "cell", "th", "item")]


class PageCase(unittest.TestCase):
    def taken(self, *lines):
        with self.subTest(lines=lines):
            self.assertEqual([[len(lines)]], ask(page(*lines)))

    def refused(self, *lines):
        with self.subTest(lines=lines):
            self.assertEqual([[-1]], ask(page(*lines)))

    def text_refused(self, text):
        with self.subTest(text=text):
            self.assertEqual([[-1]], ask(page_text(text)))


class Lines(PageCase):
    def test_one_box(self):
        self.taken("page top")

    def test_whole_text(self):
        self.text_refused("")
        self.text_refused("\n")
        self.text_refused("page top")
        self.text_refused("page top\n  p a")
        self.text_refused("page top\n\n")
        self.text_refused("\npage top\n")
        self.text_refused("page top\n  \n")
        self.text_refused("page top\r\n")
        self.text_refused("page\ttop\n")
        self.text_refused("page top\0\n")
        self.text_refused("page top\xff\n")
        self.text_refused([ord(sign) for sign in "page top\n"] + [200])

    def test_at_most_16_boxes(self):
        lines = ["page top"] + ["  p " + sign for sign in "abcdefghijklmnop"]
        self.taken(*lines[:16])
        self.refused(*lines)

    def test_blanks(self):
        self.refused("page  top")
        self.refused("page top ")
        self.refused("page top", "  p a ")
        self.refused("page top", "  p  a")
        self.refused("page top", '  p a  "Hi"')
        self.refused("page top", '  p a "Hi" ')
        self.refused("page top", '  p a "Hi"  hidden')
        self.refused("page top", '  p a"Hi"')
        self.refused("page top", '  p a "Hi"hidden')
        self.refused("page top", "  link a press show:top ")
        self.refused("page top", "  link a press show:top  show:top")

    def test_every_kind(self):
        self.taken("page top", "  part a", "  h1 b", "  h2 c", "  h3 d", "  p e", "  link f", "  button g", "  field h",
                   "  check i", "  image j", "  live k", "  modal l")
        self.taken("page top", "  list a", "    item b", "  table c", "    row d", "      cell e", "      th f")

    def test_kind_that_is_none(self):
        for kind in ["", "h4", "h", "P", "pp", "div", '"p"', "hidden"]:
            self.refused("page top", "  " + kind + " a")
        self.refused("page")
        self.refused("zpage top")
        self.refused("page top", "  p")


class Deepness(PageCase):
    def test_deep(self):
        lines = ["page top", "  part a", "    part b", "      part c", "        part d", "          part e",
                 "            part f"]
        self.taken(*lines[:6])
        self.refused(*lines)
        self.taken(*(lines[:6] + ["  p x"]))

    def test_steps(self):
        self.refused("page top", "    p a")
        self.refused("page top", "  part a", "      p b")
        self.taken("page top", "  part a", "    part b", "      p c", "    p d", "  p e")

    def test_odd_blanks(self):
        self.refused(" page top")
        self.refused("page top", " p a")
        self.refused("page top", "   p a")

    def test_first_box(self):
        self.refused("p top")
        self.refused("part top", "  p a")
        self.refused("  page top")
        self.refused("page top hidden")
        self.taken('page top "Hi" label "Ho" by top a hint a off order 3', "  p a")

    def test_other_boxes(self):
        self.refused("page top", "page more")
        self.refused("page top", "  page more")
        self.refused("page top", "p a")
        self.refused("page top", "  p a", "p b")


class Standing(PageCase):
    def test_row_only_in_a_table(self):
        self.taken("page top", "  table t", "    row r")
        self.refused("page top", "  row r")
        self.refused("page top", "  list t", "    row r")
        self.refused("page top", "  table t", "    row r", "      row s")

    def test_cells_only_in_a_row(self):
        for kind in ["cell", "th"]:
            self.taken("page top", "  table t", "    row r", "      " + kind + " c")
            self.refused("page top", "  " + kind + " c")
            self.refused("page top", "  table t", "    " + kind + " c")
            self.refused("page top", "  table t", "    row r", "      cell b", "        " + kind + " c")

    def test_item_only_in_a_list(self):
        self.taken("page top", "  list l", "    item i")
        self.refused("page top", "  item i")
        self.refused("page top", "  list l", "    item i", "      item j")
        self.refused("page top", "  table l", "    item i")

    def test_nothing_else_stands_there(self):
        for kind in FREE + ["cell", "th", "item"]:
            self.refused("page top", "  table t", "    " + kind + " a")
        for kind in FREE + ["row", "item"]:
            self.refused("page top", "  table t", "    row r", "      " + kind + " a")
        for kind in FREE + ["row", "cell", "th"]:
            self.refused("page top", "  list l", "    " + kind + " a")

    def test_all_else_stands_anywhere_else(self):
        for kind in FREE:
            for outer in [other for other in FREE if other not in ("list", "table")]:
                self.taken("page top", "  " + outer + " a", "    " + kind + " b")
            self.taken("page top", "  list l", "    item i", "      " + kind + " a")
            self.taken("page top", "  table t", "    row r", "      cell c", "        " + kind + " a")
            self.taken("page top", "  table t", "    row r", "      th c", "        " + kind + " a")

    def test_the_box_it_stands_in_is_the_last_less_deep_one(self):
        self.taken("page top", "  table t", "    row r", "      cell c", "    row s")
        self.refused("page top", "  table t", "    row r", "  p a", "    row s")
        self.taken("page top", "  list l", "    item i", "      p a", "      p b", "    item j", "  p c")


class Ids(PageCase):
    def test_form(self):
        self.taken("page abcdef")
        self.refused("page abcdefg")
        for ident in ["A", "aB", "a1", "1", "a-b", "a:b", '"a"', "\xe4"]:
            self.refused("page " + ident)

    def test_reserved(self):
        for ident in RESERVED:
            self.refused("page " + ident)
            self.refused("page top", "  p " + ident)
        for ident in ["labels", "b", "hints", "ord", "show", "hide", "flip", "text", "focus", "page", "modal"]:
            self.taken("page " + ident)

    def test_no_two_the_same(self):
        self.refused("page top", "  p top")
        self.refused("page top", "  p a", "  p b", "  link a")


class Sayings(PageCase):
    def saying(self, saying):
        return [("page top", "  p a " + saying), ("page top", "  p a label " + saying)]

    def test_taken(self):
        for saying in ["a", "Z", "0", "Hi there", "a b c 1 2 3", "x" * 20, "abcdefghi jklmnopqr", "a b c d e f g h i jk",
                       "label", "by", "hidden"]:
            for lines in self.saying('"' + saying + '"'):
                self.taken(*lines)

    def test_refused(self):
        for saying in ['""', '"', '" "', '" a"', '"a "', '"a  b"', '"' + "x" * 21 + '"', '"a b c d e f g h i j k"',
                       '"a-b"', '"a.b"', '"a:b"', '"\xe4"', '"a"b"', '"a', 'a"', '"Hi', 'Hi"', 'a"Hi"', '"a" "b"', "'a'", '"a\tb"', '"a""b"']:
            for lines in self.saying(saying):
                self.refused(*lines)

    def test_label_without_a_saying(self):
        self.refused("page top", "  p a label")
        self.refused("page top", "  p a label top")
        self.refused("page top", "  p a label hidden")


class Named(PageCase):
    def test_by(self):
        self.taken("page top", "  p a by a")
        self.taken("page top", "  p a by b", "  p b")
        self.taken("page top", "  p a by b c top", "  p b", "  p c")
        self.refused("page top", "  p a by")
        self.refused("page top", "  p a by hidden")
        self.refused("page top", "  p a by a b c top", "  p b", "  p c")
        self.refused("page top", "  p a by b b", "  p b")
        self.refused("page top", "  p a by b top b", "  p b")
        self.refused("page top", "  p a by x")
        self.refused("page top", "  p a by top x")
        self.refused("page top", "  p a by Top")
        self.refused("page top", '  p a by "top"')

    def test_hint(self):
        self.taken("page top", "  p a hint a")
        self.taken("page top", "  p a hint b", "  p b")
        self.refused("page top", "  p a hint")
        self.refused("page top", "  p a hint x")
        self.refused("page top", "  p a hint off")
        self.refused("page top", "  p a hint a top")

    def test_acts(self):
        for kind in ["link", "button", "check"]:
            self.taken("page top", "  " + kind + " a press show:top")
            self.taken("page top", "  " + kind + " a press hide:a flip:top show:b", "  p b")
            self.taken("page top", "  " + kind + " a press flip:top flip:top flip:top")
        for acts in ["", " ", " show", " show:", " :top", " show:x", " show:label", " show:top:a", " Show:top", " off:top",
                     " show: top", " show :top", " top", " show:top hide", " show:top hidden", " show:Top", ' show:"top"',
                     " show:top hide:top flip:top show:top"]:
            self.refused("page top", "  link a press" + acts)

    def test_acts_of_other_kinds(self):
        for kind in FREE:
            if kind not in ("link", "button", "check"):
                self.refused("page top", "  " + kind + " a press show:top")
        self.refused("page top press show:top")
        self.refused("page top", "  list l", "    item i press show:top")


class Marks(PageCase):
    def test_on_is_a_checks_alone(self):
        for kind in FREE:
            if kind == "check":
                self.taken("page top", "  check a on")
            else:
                self.refused("page top", "  " + kind + " a on")
        self.refused("page top on")

    def test_every_kind_may_be_hidden_off_and_have_a_number(self):
        for kind in FREE:
            self.taken("page top", "  " + kind + " a hidden off order 9")

    def test_order(self):
        for number in "123456789":
            self.taken("page top", "  link a order " + number)
        for number in ["0", "10", "01", "-1", "+1", "a", "", "1 2", '"1"', "12"]:
            self.refused("page top", "  link a order " + number)
        self.refused("page top", "  link a order")

    def test_all_in_their_order(self):
        words = ['"Text"', 'label "Label"', "by top a", "hint top", "hidden", "off", "on", "order 5", "press show:top"]
        self.taken("page top", "  check a " + " ".join(words))
        for left in range(len(words)):
            self.taken("page top", "  check a " + " ".join(words[:left] + words[left + 1:]))
            self.refused("page top", "  check a " + " ".join(words[:left] + [words[left]] + words[left:]))
            for right in range(left + 1, len(words)):
                swapped = list(words)
                swapped[left], swapped[right] = words[right], words[left]
                self.refused("page top", "  check a " + " ".join(swapped))


class TurningTo(unittest.TestCase):
    def test_page_at_a_lines_beginning(self):
        self.assertEqual([[1, 0, 0], [0], [0], [0], [-5], [-3]],
                         ask(SIZE, FOCUS, OUTLINE, next_of(0, "top"), press("top"), press("a")))

    def test_it_is_the_page_from_now_on(self):
        given = ask(page("page top", "  link a"), page("page base", "  link b"), FOCUS, tab("a"), tab("top"), tab("base"))
        self.assertEqual([[2], [2]], given[:2])
        self.assertEqual(["b"], as_texts(given[2]))
        self.assertEqual([[-3], [-3], [-6]], given[3:])

    def test_in_its_state_at_first(self):
        text = page("page top", "  check a on press flip:b", "  p b hidden")
        self.assertEqual([[3], [0, 0], [3], [0, 0], [1, 1]], ask(text, press("a"), text, press("a"), press("a")))

    def test_refused_leaves_all_as_it_was(self):
        before = [page("page top", "  check a press hide:b", '  h1 b "B"', '  h2 c "C"'), press("a")]
        self.assertEqual([(2, "c", "C")], as_outline(last(*before, OUTLINE)))
        given = ask(*before, page("page top", "  p a", "  p a"), OUTLINE, press("a"))
        self.assertEqual([[4], [1, 1], [-1]], given[:3])
        self.assertEqual([(2, "c", "C")], as_outline(given[3]))
        self.assertEqual([1, 0], given[4])

    def test_longest_text(self):
        self.assertEqual([[-1]], ask(page_text("x" * 4000)))
        self.assertEqual([[-1]], ask(page_text("\n" * 4000)))


if __name__ == "__main__":
    unittest.main()
