"""The order of focus."""

from pagemoves.visits import is_within_reach, rule_of


def takes_focus_now(visit, place):
    return rule_of(visit, place).focus and is_within_reach(visit, place)


def focus_order(visit):
    boxes = visit.boxes
    places = [place for place in range(len(boxes)) if takes_focus_now(visit, place)]
    numbered = [place for place in places if boxes[place].order != 0]
    others = [place for place in places if boxes[place].order == 0]
    return sorted(numbered, key=lambda place: boxes[place].order) + others
