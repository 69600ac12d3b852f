"""A visit: a page in a state, the rules, and the box where one is."""

from pagemoves.boxes import NOWHERE, own_places, places_around


class Visit:
    def __init__(self, boxes, rules):
        self.rules = rules
        self.turn_to(boxes)

    def turn_to(self, boxes):
        self.boxes = boxes
        self.hidden = [box.hidden for box in boxes]
        self.on = [box.on for box in boxes]
        self.here = 0


def rule_of(visit, place):
    return visit.rules[visit.boxes[place].kind]


def shown_own_places(visit, place):
    return [inner for inner in own_places(visit.boxes, place) if not visit.hidden[inner]]


def is_visible_with(hidden, boxes, place):
    return not any([hidden[outer] for outer in [place] + places_around(boxes, place)])


def is_visible(visit, place):
    return is_visible_with(visit.hidden, visit.boxes, place)


def modal_place(visit):
    modal = NOWHERE
    for place, box in enumerate(visit.boxes):
        if box.kind == "modal" and is_visible(visit, place):
            modal = place
    return modal


# Off boxes and those outside of the modal are neither pressed nor focused.
def is_within_reach(visit, place):
    if visit.boxes[place].off or not is_visible(visit, place):
        return False
    modal = modal_place(visit)
    return modal == NOWHERE or modal in places_around(visit.boxes, place)
