"""The interface: how calls are written, and what is given back for them."""

import unittest

import pagemoves.pages
from pagemoves.pagetext import FIRST_PAGE, read_page
from pagemoves.pages import Call, answer_call
from pagemoves.rules import FIRST_RULES, read_rules
from pagemoves.visits import Visit

from tests.calling import (FOCUS, OUTLINE, SIZE, as_outline, as_text, as_texts, as_found, ask, back, changed_rules, next_of,
                           page, press, prev_of, tab)

SHOP = page("page top", '  h1 title "Shop"', "  table t", "    row ra", '      th ha "Name"', '      th hb "Price"',
            "    row rb", '      th hc "Apple"', '      cell cc "3"', '  h2 more "Deeds"',
            '  link go "Buy" order 2 press show:sure', '  field many label "How many" order 1', "  modal sure hidden",
            '    button no "No" press hide:sure')


class Example(unittest.TestCase):
    def test_the_documents_example(self):
        given = ask(SHOP, FOCUS, tab("go"), next_of(1, "title"), OUTLINE, press("go"), FOCUS, SIZE)
        self.assertEqual([14], given[0])
        self.assertEqual(["many", "go"], as_texts(given[1]))
        self.assertEqual("many", as_text(given[2]))
        self.assertEqual("more", as_found(given[3]))
        self.assertEqual([(1, "title", "Shop"), (2, "more", "Deeds")], as_outline(given[4]))
        self.assertEqual([0, 0], given[5])
        self.assertEqual(["no"], as_texts(given[6]))
        self.assertEqual([2, 1, 0], given[7])


class Writing(unittest.TestCase):
    LINE = (page("page top", "  link ab", "  h1 c") + FOCUS + tab("ab") + back("top") + next_of(1, "ab") + prev_of(3, "ab")
            + OUTLINE + press("x") + changed_rules() + next_of(9, "ab") + SIZE)

    def test_number_by_number(self):
        self.assertEqual([1, 3, 4, 1, 2, 97, 98, 3, 2, 97, 98, 1, -6, 3, 1, 1, 99, 1, 0, 5, 1, 1, 1, 99, 0, 1, -3, 1, 4,
                          1, -2, 3, 3, 1, 1], pagemoves.pages.answers(self.LINE))

    def test_what_is_handed_in_stays_as_it_was(self):
        calls = list(self.LINE)
        pagemoves.pages.answers(calls)
        self.assertEqual(self.LINE, calls)

    def test_a_second_time_answers_as_the_first(self):
        calls = SHOP + press("go") + changed_rules("p text focus") + SIZE + press("no") + FOCUS
        first = pagemoves.pages.answers(calls)
        self.assertEqual([1, 0, 0], ask(SIZE)[0])
        self.assertEqual(first, pagemoves.pages.answers(calls))
        self.assertEqual(first, pagemoves.pages.answers(list(calls)))

    def test_what_is_given_back_is_new(self):
        first = pagemoves.pages.answers(SIZE)
        first.append(5)
        self.assertEqual([3, 1, 0, 0], pagemoves.pages.answers(SIZE))

    def test_lists_of_whole_numbers(self):
        given = pagemoves.pages.answers(SHOP + press("go") + FOCUS + OUTLINE + SIZE + press("no") + OUTLINE + changed_rules())
        self.assertIs(list, type(given))
        self.assertEqual({int}, {type(number) for number in given})

    def test_fifty_calls(self):
        self.assertEqual([[3, 1, 1]] * 49, ask(page("page top", "  link a", "  h1 b"), *[SIZE] * 49)[1:])

    def test_long_rows(self):
        long = [7] * 4000
        self.assertEqual([[-1], [-1], [-3], [-3], [1, 0, 0]], ask([0, 4000] + long, [1, 4000] + long, [2, 4000] + long,
                                                                  [4, 4000] + long, SIZE))


class WhereOneIs(unittest.TestCase):
    """No call of these tells where one is yet: it's looked up."""

    def call(self, visit, numbers):
        text = "".join(chr(number) for number in numbers[2:])
        return answer_call(visit, Call(numbers[0], 0, text))

    def test_at_the_first_box(self):
        visit = Visit(read_page(FIRST_PAGE), read_rules(FIRST_RULES))
        self.assertEqual(0, visit.here)
        self.assertEqual([14], self.call(visit, SHOP))
        self.assertEqual(0, visit.here)

    def test_a_new_page_brings_one_back_and_nothing_else_does(self):
        visit = Visit(read_page(FIRST_PAGE), read_rules(FIRST_RULES))
        self.call(visit, SHOP)
        visit.here = 3
        self.assertEqual([0, 0], self.call(visit, press("go")))
        self.assertEqual([4], self.call(visit, changed_rules()))
        self.assertEqual([-1], self.call(visit, page("page label")))
        self.assertEqual(3, visit.here)
        self.call(visit, SHOP)
        self.assertEqual(0, visit.here)


if __name__ == "__main__":
    unittest.main()
