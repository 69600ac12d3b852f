"""What's heard of a page, and the classes of boxes."""

from pagemoves.boxes import NOWHERE, places_around
from pagemoves.visits import is_visible, modal_place, rule_of

ALL = 0
HEADING = 1
FOCUSED = 2

# The classes that are told by kinds alone.
CLASS_KINDS = {1: ("h1", "h2", "h3"), 3: ("link",), 4: ("field", "check"), 5: ("table",), 6: ("list",)}
LAST_CLASS = 6


def is_said_by_itself(visit, place):
    if not is_visible(visit, place):
        return False
    return not any([rule_of(visit, outer).whole for outer in places_around(visit.boxes, place)])


def is_heard(visit, place):
    if not is_said_by_itself(visit, place):
        return False
    modal = modal_place(visit)
    return modal == NOWHERE or modal in [place] + places_around(visit.boxes, place)


def is_of_class(visit, place, number):
    if number == ALL:
        return True
    if number == FOCUSED:
        return rule_of(visit, place).focus
    return visit.boxes[place].kind in CLASS_KINDS[number]


def heard_places(visit, number):
    places = [place for place in range(len(visit.boxes)) if is_of_class(visit, place, number)]
    return [place for place in places if is_heard(visit, place)]


def next_place(visit, number, place):
    return min([other for other in heard_places(visit, number) if other > place], default=NOWHERE)


def prev_place(visit, number, place):
    return max([other for other in heard_places(visit, number) if other < place], default=NOWHERE)


def heading_level(box):
    return CLASS_KINDS[HEADING].index(box.kind) + 1
