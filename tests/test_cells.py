"""Promises 10 to 13: grid, heads, move and sentence."""

import unittest

from tests.calling import (HERE, SIZE, as_found, as_grid, as_heads, as_here, as_text, ask, changed_rules, grid, heads, last, move,
                           page, press, sentence)

PLAIN = page("page top", "  table t", "    row r", "      th a", "      th b", "      th c", "    row s", "      th d",
             "      cell e", "      cell f", "    row u", "      th g", "      cell h", "      cell i")
UNLIKE = page("page top", "  table t", "    row r", "      th a", "      th b", "    row s", "      cell c", "    row u",
              "    row v", "      cell d", "      cell e", "      cell f")
# Hidden are b, the row s, and g: the grid is a c / h i.
HIDING = page("page top", "  table t", "    row r", "      th a", "      th b hidden", "      th c", "    row s hidden",
              "      th d", "      cell e", "      cell f", "    row u", "      th g hidden", "      th h", "      cell i")

WRONG_NAMES = ["", "z", "A", "a ", " a", "aa", "row", "\0", "\xe1", "a\n", "a" * 4000]


def cell_calls(name):
    """Each call on a cell."""
    return [heads(name), sentence(name)] + [move(way, name) for way in range(4)]


class Grid(unittest.TestCase):
    def grid(self, expected, *calls):
        self.assertEqual(expected, as_grid(last(*calls)))

    def test_rows_and_columns(self):
        self.grid([["a", "b", "c"], ["d", "e", "f"], ["g", "h", "i"]], PLAIN, grid("t"))

    def test_number_by_number(self):
        box = page("page top", "  table t", "    row r", "      th ab", "      cell c", "    row s", "    row u", "      cell d")
        self.assertEqual([3, 2, 2, 97, 98, 1, 99, 0, 1, 1, 100], last(box, grid("t")))

    def test_none(self):
        self.assertEqual([0], last(page("page top", "  table t"), grid("t")))
        self.assertEqual([0], last(page("page top", "  table t", "    row r hidden", "      cell a"), grid("t")))

    def test_rows_of_unlike_length_and_empty_ones(self):
        self.grid([["a", "b"], ["c"], [], ["d", "e", "f"]], UNLIKE, grid("t"))

    def test_hidden_rows_and_cells_are_left_out(self):
        self.grid([["a", "c"], ["h", "i"]], HIDING, grid("t"))

    def test_a_row_whose_cells_are_all_hidden_is_there(self):
        self.grid([["a"], [], ["c"]], page("page top", "  table t", "    row r", "      cell a", "    row s", "      cell b hidden",
                                           "    row u", "      cell c"), grid("t"))

    def test_a_table_that_is_hidden_itself(self):
        self.grid([["a"]], page("page top", "  table t hidden", "    row r", "      cell a"), grid("t"))

    def test_a_table_in_a_hidden_box(self):
        self.grid([["a"]], page("page top", "  part x hidden", "    part y", "      table t", "        row r", "          cell a"),
                  grid("t"))

    def test_a_table_outside_of_the_modal(self):
        self.grid([["a"]], page("page top", "  table t", "    row r", "      cell a", "  modal m"), grid("t"))

    def test_a_table_that_is_said_whole_or_within_such_a_one(self):
        self.grid([["a"]], changed_rules("table table whole", "row row whole"),
                  page("page top", "  link x", "    table t", "      row r", "        cell a"), grid("t"))

    def test_what_stands_in_cells_is_not_in_it(self):
        self.grid([["a", "c"]], page("page top", "  table t", "    row r", "      cell a", "        p b", "      th c",
                                     "        image d"), grid("t"))

    def test_a_table_in_a_cell_has_its_own_grid(self):
        box = page("page top", "  table t", "    row r", "      cell a", "        table u", "      cell b")
        self.grid([["a", "b"]], box, grid("t"))
        self.grid([], box, grid("u"))

    def test_two_tables(self):
        box = page("page top", "  table t", "    row r", "      cell a", "  table u", "    row s", "      cell b", "    row v",
                   "      th c")
        self.grid([["a"]], box, grid("t"))
        self.grid([["b"], ["c"]], box, grid("u"))

    def test_it_follows_the_state(self):
        box = page("page top", "  link x press flip:r flip:b flip:t", "  table t", "    row r", "      cell a", "    row s",
                   "      cell b hidden", "      cell c")
        self.grid([["a"], ["c"]], box, grid("t"))
        self.grid([["b", "c"]], box, press("x"), grid("t"))
        self.grid([["a"], ["c"]], box, press("x"), press("x"), grid("t"))

    def test_no_such_box(self):
        for name in WRONG_NAMES:
            with self.subTest(name=name):
                self.assertEqual([-3], last(PLAIN, grid(name)))
        self.assertEqual([-3], last(grid("t")))

    def test_no_table(self):
        box = page("page top", "  table t", "    row r", "      cell a", "      th b hidden", "  list l", "    item i", "  p p",
                   "  link k", "  modal m")
        for name in ["top", "r", "a", "b", "l", "i", "p", "k", "m"]:
            with self.subTest(name=name):
                self.assertEqual([-5], last(box, grid(name)))
        self.assertEqual([-5], last(grid("top")))


class CellRefusals(unittest.TestCase):
    def all(self, expected, name, *calls):
        for call in cell_calls(name):
            with self.subTest(name=name, call=call[0]):
                self.assertEqual(expected, last(*calls, call))

    def test_no_such_box(self):
        for name in WRONG_NAMES:
            self.all([-3], name, PLAIN)

    def test_no_cell_and_no_th(self):
        box = page("page top", "  table t", "    row r", "      cell a", "        p b", "    row s hidden", "  list l", "    item i",
                   "  p p hidden", "  link k", "  table u hidden")
        for name in ["top", "t", "r", "b", "s", "l", "i", "p", "k", "u"]:
            self.all([-5], name, box)
        self.all([-5], "top")

    def test_not_in_the_grid(self):
        for name in ["b", "d", "e", "f", "g"]:
            self.all([-6], name, HIDING)

    def test_hidden_itself_and_its_row_too(self):
        self.all([-6], "a", page("page top", "  table t", "    row r hidden", "      cell a hidden"))

    def test_in_the_grid_of_a_table_that_is_not_visible(self):
        hidden = page("page top", "  table t hidden", "    row r", '      th a "A"', '      cell b "B"')
        inside = page("page top", "  part x hidden", "    table t", "      row r", '        th a "A"', '        cell b "B"')
        outside = page("page top", "  table t", "    row r", '      th a "A"', '      cell b "B"', "  modal m")
        for box in (hidden, inside, outside):
            with self.subTest(box=box):
                self.assertEqual(([], ["a"]), as_heads(last(box, heads("b"))))
                self.assertEqual("a", as_found(last(box, move(0, "b"))))
                self.assertEqual("A B", as_text(last(box, sentence("b"))))

    def test_hidden_and_shown_by_a_press(self):
        box = page("page top", "  link x press flip:a", "  link y press flip:r", "  table t", "    row r", '      cell a "A"')
        for name in ["x", "y"]:
            self.all([-6], "a", box, press(name))
            self.assertEqual("A", as_text(last(box, press(name), press(name), sentence("a"))))

    def test_no_way(self):
        for way in [-1, 4, 5, -2, 6, -10 ** 18, 10 ** 18]:
            for name in ["a", "e", "z", "t", ""]:
                with self.subTest(way=way, name=name):
                    self.assertEqual([-2], last(PLAIN, move(way, name)))
            self.assertEqual([-2], last(HIDING, move(way, "b")))

    def test_refused_leaves_all_as_it_was(self):
        calls = [grid("z"), grid("a"), heads("z"), heads("t"), heads("b"), sentence("z"), sentence("t"), sentence("d"),
                 move(4, "a"), move(0, "z"), move(0, "t"), move(0, "b")]
        given = ask(HIDING, *calls, grid("t"), HERE, SIZE)
        self.assertEqual([[-3], [-5], [-3], [-5], [-6], [-3], [-5], [-6], [-2], [-3], [-5], [-6]], given[1:13])
        self.assertEqual([["a", "c"], ["h", "i"]], as_grid(given[13]))
        self.assertEqual(("top", True), as_here(given[14]))
        self.assertEqual(last(HIDING, SIZE), given[15])


class Heads(unittest.TestCase):
    def heads(self, above, before, name, *calls):
        self.assertEqual((list(above), list(before)), as_heads(last(*calls, heads(name))))

    def test_above_and_before(self):
        for name, above, before in [("a", "", ""), ("b", "", "a"), ("c", "", "ab"), ("d", "a", ""), ("e", "b", "d"), ("f", "c", "d"),
                                    ("g", "ad", ""), ("h", "b", "g"), ("i", "c", "g")]:
            with self.subTest(name=name):
                self.heads(above, before, name, PLAIN)

    def test_number_by_number(self):
        self.assertEqual([1, 1, 98, 1, 1, 100], last(PLAIN, heads("e")))
        self.assertEqual([2, 1, 97, 1, 100, 0], last(PLAIN, heads("g")))
        self.assertEqual([0, 0], last(PLAIN, heads("a")))

    def test_from_the_top_on_with_cells_between(self):
        box = page("page top", "  table t", "    row r", "      th a", "    row s", "      cell b", "    row u", "      th c", "    row v",
                   "      cell d", "    row w", "      cell e")
        self.heads("", "", "a", box)
        self.heads("a", "", "b", box)
        self.heads("a", "", "c", box)
        self.heads("ac", "", "d", box)
        self.heads("ac", "", "e", box)

    def test_before_with_cells_between(self):
        box = page("page top", "  table t", "    row r", "      cell a", "      th b", "      cell c", "      th d", "      cell e",
                   "      th f")
        for name, before in [("a", ""), ("b", ""), ("c", "b"), ("d", "b"), ("e", "bd"), ("f", "bd")]:
            self.heads("", before, name, box)

    def test_not_those_below_or_behind(self):
        box = page("page top", "  table t", "    row r", "      cell a", "      th b", "    row s", "      th c", "      th d")
        self.heads("", "", "a", box)
        self.heads("", "", "c", box)
        self.heads("b", "c", "d", box)

    def test_places_are_counted_in_the_grid(self):
        self.heads("c", "h", "i", HIDING)
        self.heads("a", "", "h", HIDING)
        self.heads("", "a", "c", HIDING)

    def test_shorter_rows_above(self):
        box = page("page top", "  table t", "    row r", "      th a", "      th b", "    row s", "      th c", "    row u", "    row v",
                   "      cell d", "      cell e", "      cell f", "    row w", "      th g")
        self.heads("ac", "", "d", box)
        self.heads("b", "", "e", box)
        self.heads("", "", "f", box)

    def test_not_those_of_other_tables(self):
        box = page("page top", "  table t", "    row r", "      th a", "      th b", "  table u", "    row s", "      cell c",
                   "      cell d", "  table v", "    row w", "      th e")
        self.heads("", "", "c", box)
        self.heads("", "", "d", box)
        self.heads("", "", "e", box)

    def test_it_follows_the_state(self):
        box = page("page top", "  link x press flip:b", "  table t", "    row r", "      th a", "      th b", "      th c", "    row s",
                   "      th d", "      cell e")
        self.heads("b", "d", "e", box)
        self.heads("c", "d", "e", box, press("x"))
        self.heads("b", "d", "e", box, press("x"), press("x"))


class Move(unittest.TestCase):
    def moves(self, expected, name, *calls):
        """Where left, right, above and below lead; a point for none."""
        found = [as_found(last(*calls, move(way, name))) or "." for way in range(4)]
        self.assertEqual(expected, "".join(found), name)

    def test_every_way_and_the_edges(self):
        for name, expected in [("a", ".b.d"), ("b", "ac.e"), ("c", "b..f"), ("d", ".eag"), ("e", "dfbh"), ("f", "e.ci"), ("g", ".hd."),
                               ("h", "gie."), ("i", "h.f.")]:
            self.moves(expected, name, PLAIN)

    def test_number_by_number(self):
        self.assertEqual([1, 1, 100], last(PLAIN, move(0, "e")))
        self.assertEqual([0], last(PLAIN, move(0, "d")))
        self.assertEqual([1, 2, 98, 98], last(page("page top", "  table t", "    row r", "      cell a", "      th bb"), move(1, "a")))

    def test_one_alone(self):
        self.moves("....", "a", page("page top", "  table t", "    row r", "      cell a"))

    def test_unlike_and_empty_rows(self):
        for name, expected in [("a", ".b.c"), ("b", "a..."), ("c", "..a."), ("d", ".e.."), ("e", "df.."), ("f", "e...")]:
            self.moves(expected, name, UNLIKE)

    def test_places_are_counted_in_the_grid(self):
        for name, expected in [("a", ".c.h"), ("c", "a..i"), ("h", ".ia."), ("i", "h.c.")]:
            self.moves(expected, name, HIDING)

    def test_not_into_other_tables(self):
        box = page("page top", "  table t", "    row r", "      cell a", "  table u", "    row s", "      cell b")
        self.moves("....", "a", box)
        self.moves("....", "b", box)

    def test_what_stands_in_cells_is_passed_over(self):
        box = page("page top", "  table t", "    row r", "      cell a", "        p b", "      th c", "        table u", "    row s",
                   "      cell d")
        self.moves(".c.d", "a", box)
        self.moves("a...", "c", box)

    def test_it_follows_the_state(self):
        box = page("page top", "  link x press flip:s", "  table t", "    row r", "      cell a", "    row s", "      cell b",
                   "    row u", "      cell c")
        self.moves("...b", "a", box)
        self.moves("...c", "a", box, press("x"))
        self.moves("..a.", "c", box, press("x"))

    def test_one_stays_where_one_is(self):
        given = ask(PLAIN, HERE, move(1, "a"), grid("t"), heads("e"), sentence("e"), HERE)
        self.assertEqual(given[1], given[6])


class Sentence(unittest.TestCase):
    def said(self, expected, name, *calls):
        self.assertEqual(expected, as_text(last(*calls, sentence(name))))

    def test_above_before_and_its_own(self):
        box = page("page top", "  table t", "    row r", '      th a "One"', '      th b "Two words"', "    row s", '      th c "Sum"',
                   '      th d "Part"', "    row u", '      th e "Apple"', '      cell f "3"')
        for name, expected in [("a", "One"), ("b", "One Two words"), ("c", "One Sum"), ("d", "Two words Sum Part"),
                               ("e", "One Sum Apple"), ("f", "Two words Part Apple 3")]:
            self.said(expected, name, box)

    def test_number_by_number(self):
        box = page("page top", "  table t", "    row r", '      th a "A"', '      cell b "B"')
        self.assertEqual([3, 65, 32, 66], last(box, sentence("b")))

    def test_names_that_are_nothing(self):
        box = page("page top", "  table t", "    row r", '      th a', '      th b "B"', "    row s", '      th c', '      cell d "D"',
                   "      cell e", "    row u", '      cell f', '      cell g')
        for name, expected in [("a", ""), ("b", "B"), ("c", ""), ("d", "B D"), ("e", ""), ("f", ""), ("g", "B")]:
            self.said(expected, name, box)
        self.assertEqual([0], last(box, sentence("a")))

    def test_places_are_counted_in_the_grid(self):
        box = page("page top", "  table t", "    row r", '      th a "A" hidden', '      th b "B"', '      th c "C"', "    row s",
                   '      cell d "D"', '      th e "E" hidden', '      cell f "F"')
        self.said("B D", "d", box)
        self.said("C F", "f", box)

    def test_names_by_the_rules(self):
        box = page("page top", '  p x "X"', '  p y "Y"', "  table t", "    row r", '      th a "A" label "L" by x hint y',
                   '      cell b "B" label "M" by x hint y', '        p k "K"')
        self.said("L B", "b", box)
        for th, cell, expected in [("by label", "hint", "X Y"), ("text", "label", "A M"), ("kids hint", "kids", "Y K"),
                                   ("kids", "by", "X"), ("hint", "kids label", "Y K")]:
            with self.subTest(th=th, cell=cell):
                self.said(expected, "b", changed_rules("th head from " + th, "cell cell from " + cell), box)

    def test_kids_of_a_head(self):
        box = page("page top", "  link x press flip:b", "  table t", "    row r", "      th a", '        p b "B"', '        p c "C"',
                   '      cell d "D"')
        self.said("B C D", "d", box)
        self.said("C D", "d", box, press("x"))


if __name__ == "__main__":
    unittest.main()
