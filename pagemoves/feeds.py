"""The calls, one after the other, out of the numbers that are handed in."""

from pagemoves.signs import text_of

CALLS_WITH_NUMBER = (6, 7, 11, 15, 16)
CALLS_WITH_ROW = (0, 1, 2, 4, 5, 6, 7, 9, 10, 11, 12)


class Call:
    def __init__(self, number, choice, text):
        self.number = number
        # A class, or a way of move.
        self.choice = choice
        self.text = text


class Feed:
    def __init__(self, numbers):
        self.numbers = numbers
        self.at = 0

    def ended(self):
        return self.at >= len(self.numbers)

    def take(self):
        number = self.numbers[self.at]
        self.at = self.at + 1
        return number

    def take_row(self):
        count = self.take()
        end = self.at + count
        row = self.numbers[self.at:end]
        self.at = end
        return row

    def take_call(self):
        number = self.take()
        choice = self.take() if number in CALLS_WITH_NUMBER else 0
        text = text_of(self.take_row()) if number in CALLS_WITH_ROW else ""
        return Call(number, choice, text)
