"""The calls on one object, and their answers."""

from pagemoves.boxes import NOWHERE, place_of
from pagemoves.focusing import focus_order
from pagemoves.hearing import ALL, HEADING, LAST_CLASS, heading_level, heard_places, next_place, prev_place
from pagemoves.names import full_name
from pagemoves.pagetext import FIRST_PAGE, read_page
from pagemoves.presses import does_something, press_box
from pagemoves.refusals import NoSuchBox, NotNow, WrongClass, WrongKind, WrongText
from pagemoves.rules import FIRST_RULES, read_rules
from pagemoves.signs import text_answer, text_of, texts_answer
from pagemoves.visits import Visit, is_within_reach


class Call:
    def __init__(self, number, of, text):
        self.number = number
        self.of = of
        self.text = text


class Feed:
    def __init__(self, numbers):
        self.numbers = numbers
        self.at = 0

    def ended(self):
        return self.at >= len(self.numbers)

    def take(self):
        number = self.numbers[self.at]
        self.at = self.at + 1
        return number

    def take_row(self):
        count = self.take()
        end = self.at + count
        row = self.numbers[self.at:end]
        self.at = end
        return row


def answer_page(visit, call):
    visit.turn_to(read_page(call.text))
    return [len(visit.boxes)]


def answer_rules(visit, call):
    visit.rules = read_rules(call.text)
    return [len([rule for rule in visit.rules.values() if rule.focus])]


def answer_press(visit, call):
    place = place_of(visit.boxes, call.text)
    if not does_something(visit.boxes[place]):
        raise WrongKind()
    if not is_within_reach(visit, place):
        raise NotNow()
    press_box(visit, place)
    return [visit.hidden.count(True), visit.on.count(True)]


def answer_focus(visit, call):
    return texts_answer([visit.boxes[place].ident for place in focus_order(visit)])


def focus_step(visit, call, step):
    place = place_of(visit.boxes, call.text)
    order = focus_order(visit)
    if place not in order:
        raise NotNow()
    found = order[(order.index(place) + step) % len(order)]
    return text_answer(visit.boxes[found].ident)


def answer_tab(visit, call):
    return focus_step(visit, call, 1)


def answer_back(visit, call):
    return focus_step(visit, call, -1)


def check_class(number):
    if number < 0 or number > LAST_CLASS:
        raise WrongClass()


def found_answer(visit, found):
    if found == NOWHERE:
        return [0]
    return [1] + text_answer(visit.boxes[found].ident)


def answer_next(visit, call):
    check_class(call.of)
    place = place_of(visit.boxes, call.text)
    return found_answer(visit, next_place(visit, call.of, place))


def answer_prev(visit, call):
    check_class(call.of)
    place = place_of(visit.boxes, call.text)
    return found_answer(visit, prev_place(visit, call.of, place))


def answer_outline(visit, call):
    places = heard_places(visit, HEADING)
    answer = [len(places)]
    for place in places:
        box = visit.boxes[place]
        answer.append(heading_level(box))
        answer.extend(text_answer(box.ident))
        answer.extend(text_answer(full_name(visit, place)))
    return answer


def answer_size(visit, call):
    heard = heard_places(visit, ALL)
    headings = heard_places(visit, HEADING)
    return [len(heard), len(focus_order(visit)), len(headings)]


CALLS = {
    0: answer_page, 1: answer_rules, 2: answer_press, 3: answer_focus, 4: answer_tab,
    5: answer_back, 6: answer_next, 7: answer_prev, 8: answer_outline, 17: answer_size,
}
CALLS_WITH_NUMBER = (6, 7)
CALLS_WITH_ROW = (0, 1, 2, 4, 5, 6, 7)


def take_call(feed):
    number = feed.take()
    of = feed.take() if number in CALLS_WITH_NUMBER else 0
    text = text_of(feed.take_row()) if number in CALLS_WITH_ROW else ""
    return Call(number, of, text)


def answer_call(visit, call):
    try:
        return CALLS[call.number](visit, call)
    except WrongText:
        return [-1]
    except WrongClass:
        return [-2]
    except NoSuchBox:
        return [-3]
    except WrongKind:
        return [-5]
    except NotNow:
        return [-6]


def answers(calls):
    visit = Visit(read_page(FIRST_PAGE), read_rules(FIRST_RULES))
    feed = Feed(calls)
    given = []
    while not feed.ended():
        answer = answer_call(visit, take_call(feed))
        given.append(len(answer))
        given.extend(answer)
    return given
