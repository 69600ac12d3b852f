"""The program beside a second one, on many lines of calls.

The lines are made from fixed seeds: each run has the same.
"""

import re
import unittest

from pagemoves.pages import answers

from tests.calling import ESCAPE, ask, go, goback, grid, heads, move, page_text, rules_text, sentence
from tests.making import Maker
from tests.model import Model, read_page


class BesideTheModel(unittest.TestCase):
    def expected(self, calls):
        model = Model()
        given = []
        for call in calls:
            answer = model.answer(call)
            given += [len(answer)] + answer
        return given

    def same(self, calls):
        given = answers(sum(calls, []))
        self.assertEqual(self.expected(calls), given, calls)
        return given

    def test_lines_of_calls(self):
        for seed in range(400):
            maker = Maker(seed)
            self.same(maker.line(maker.page()))

    def test_lines_on_tables(self):
        moved = 0
        for seed in range(200):
            maker = Maker(1000 + seed)
            text = maker.table_page()
            self.assertIsNotNone(read_page(text), text)
            calls = maker.line(text)
            self.same(calls)
            cells = re.findall(r"(?m)^ *(?:cell|th) (\w+)", text)
            self.same([page_text(text)] + [call for name in cells for call in (heads(name), sentence(name), grid(name))])
            moves = [page_text(text)] + [move(way, name) for name in cells[:12] for way in range(4)]
            self.same(moves)
            moved += sum(1 for answer in ask(*moves)[1:] if answer[0] == 1)
        self.assertGreater(moved, 1000)

    def test_lines_with_modals(self):
        left = 0
        for seed in range(300):
            maker = Maker(2000 + seed)
            text = maker.modal_page()
            self.assertIsNotNone(read_page(text), text)
            self.same(maker.line(text))
            left += self.same([page_text(text), ESCAPE])[-1] > 96
        self.assertGreater(left, 50)

    def test_what_is_said_of_each_box(self):
        for seed in range(200):
            maker = Maker(3000 + seed)
            text = maker.chance.choice([maker.page, maker.table_page, maker.modal_page])()
            self.same([page_text(text), rules_text(maker.rules())] + [go(0)] * 15 + [goback(0)] * 15)

    def test_spoilt_texts(self):
        taken = 0
        for seed in range(400):
            maker = Maker(-1 - seed)
            page = maker.page()
            rules = maker.rules()
            calls = [page_text(maker.spoilt(page)) for turn in range(12)] + [rules_text(maker.spoilt(rules)) for turn in range(6)]
            self.same(calls)
            taken += sum(1 for call in calls if read_page(bytes(call[2:]).decode("latin-1")))
        self.assertGreater(taken, 100)


if __name__ == "__main__":
    unittest.main()
