"""The calls on one object, and their answers."""

from pagemoves.boxes import NOWHERE, place_of
from pagemoves.feeds import Feed
from pagemoves.focusing import focus_order
from pagemoves.grids import LAST_WAY, cell_spot, grid_of, heads_above, heads_before, place_beside, sentence_of
from pagemoves.hearing import ALL, HEADING, LAST_CLASS, heading_level, heard_places, is_heard, next_place, prev_place
from pagemoves.names import full_name
from pagemoves.pagetext import FIRST_PAGE, read_page
from pagemoves.presses import can_be_pressed, does_something, places_that_lead_out, press_box
from pagemoves.refusals import NoSuchBox, NotNow, WrongKind, WrongNumber, WrongText
from pagemoves.rules import FIRST_RULES, read_rules
from pagemoves.signs import text_answer, texts_answer
from pagemoves.spoken import what_is_said
from pagemoves.visits import Visit, modal_place


def answer_page(visit, call):
    visit.turn_to(read_page(call.text))
    return [len(visit.boxes)]


def answer_rules(visit, call):
    visit.rules = read_rules(call.text)
    return [len([rule for rule in visit.rules.values() if rule.focus])]


def answer_press(visit, call):
    place = place_of(visit.boxes, call.text)
    if not does_something(visit.boxes[place]):
        raise WrongKind()
    if not can_be_pressed(visit, place):
        raise NotNow()
    press_box(visit, place)
    return [visit.hidden.count(True), visit.on.count(True)]


def places_answer(visit, places):
    return texts_answer([visit.boxes[place].ident for place in places])


def answer_focus(visit, call):
    return places_answer(visit, focus_order(visit))


def focus_step(visit, call, step):
    place = place_of(visit.boxes, call.text)
    order = focus_order(visit)
    if place not in order:
        raise NotNow()
    found = order[(order.index(place) + step) % len(order)]
    return text_answer(visit.boxes[found].ident)


def answer_tab(visit, call):
    return focus_step(visit, call, 1)


def answer_back(visit, call):
    return focus_step(visit, call, -1)


def check_number(number, greatest):
    if number < 0 or number > greatest:
        raise WrongNumber()


def found_answer(visit, found):
    if found == NOWHERE:
        return [0]
    return [1] + text_answer(visit.boxes[found].ident)


def answer_next(visit, call):
    check_number(call.choice, LAST_CLASS)
    place = place_of(visit.boxes, call.text)
    return found_answer(visit, next_place(visit, call.choice, place))


def answer_prev(visit, call):
    check_number(call.choice, LAST_CLASS)
    place = place_of(visit.boxes, call.text)
    return found_answer(visit, prev_place(visit, call.choice, place))


def answer_outline(visit, call):
    places = heard_places(visit, HEADING)
    answer = [len(places)]
    for place in places:
        box = visit.boxes[place]
        answer.append(heading_level(box))
        answer.extend(text_answer(box.ident))
        answer.extend(text_answer(full_name(visit, place)))
    return answer


def answer_grid(visit, call):
    place = place_of(visit.boxes, call.text)
    if visit.boxes[place].kind != "table":
        raise WrongKind()
    grid = grid_of(visit, place)
    answer = [len(grid)]
    for row in grid:
        answer.extend(places_answer(visit, row))
    return answer


def answer_heads(visit, call):
    spot = cell_spot(visit, call.text)
    return places_answer(visit, heads_above(visit, spot)) + places_answer(visit, heads_before(visit, spot))


def answer_move(visit, call):
    check_number(call.choice, LAST_WAY)
    spot = cell_spot(visit, call.text)
    return found_answer(visit, place_beside(spot, call.choice))


def answer_sentence(visit, call):
    return text_answer(sentence_of(visit, cell_spot(visit, call.text)))


def answer_escape(visit, call):
    modal = modal_place(visit)
    if modal == NOWHERE:
        return [0]
    return found_answer(visit, modal) + places_answer(visit, places_that_lead_out(visit, modal))


def answer_here(visit, call):
    return text_answer(visit.boxes[visit.here].ident) + [1 if is_heard(visit, visit.here) else 0]


def go_to(visit, found):
    if found == NOWHERE:
        return [0]
    visit.here = found
    return found_answer(visit, found) + text_answer(what_is_said(visit, found))


def answer_go(visit, call):
    check_number(call.choice, LAST_CLASS)
    return go_to(visit, next_place(visit, call.choice, visit.here))


def answer_goback(visit, call):
    check_number(call.choice, LAST_CLASS)
    return go_to(visit, prev_place(visit, call.choice, visit.here))


def answer_size(visit, call):
    heard = heard_places(visit, ALL)
    headings = heard_places(visit, HEADING)
    return [len(heard), len(focus_order(visit)), len(headings)]


CALLS = {
    0: answer_page, 1: answer_rules, 2: answer_press, 3: answer_focus, 4: answer_tab,
    5: answer_back, 6: answer_next, 7: answer_prev, 8: answer_outline, 9: answer_grid,
    10: answer_heads, 11: answer_move, 12: answer_sentence, 13: answer_escape, 14: answer_here,
    15: answer_go, 16: answer_goback, 17: answer_size,
}


def answer_call(visit, call):
    try:
        return CALLS[call.number](visit, call)
    except WrongText:
        return [-1]
    except WrongNumber:
        return [-2]
    except NoSuchBox:
        return [-3]
    except WrongKind:
        return [-5]
    except NotNow:
        return [-6]


def answers(calls):
    visit = Visit(read_page(FIRST_PAGE), read_rules(FIRST_RULES))
    feed = Feed(calls)
    given = []
    while not feed.ended():
        answer = answer_call(visit, feed.take_call())
        given.append(len(answer))
        given.extend(answer)
    return given
