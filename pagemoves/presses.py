"""Pressing a box, and leaving the modal by that."""

from pagemoves.boxes import place_of
from pagemoves.visits import is_visible_with, is_within_reach


def does_something(box):
    return box.kind == "check" or len(box.acts) > 0


def can_be_pressed(visit, place):
    return does_something(visit.boxes[place]) and is_within_reach(visit, place)


# A list of its own: what a press would hide can be told without pressing.
def hidden_after(visit, place):
    hidden = list(visit.hidden)
    for deed, ident in visit.boxes[place].acts:
        named = place_of(visit.boxes, ident)
        if deed == "flip":
            hidden[named] = not hidden[named]
        else:
            hidden[named] = deed == "hide"
    return hidden


def press_box(visit, place):
    if visit.boxes[place].kind == "check":
        visit.on[place] = not visit.on[place]
    visit.hidden = hidden_after(visit, place)


def leads_out(visit, modal, place):
    return can_be_pressed(visit, place) and not is_visible_with(hidden_after(visit, place), visit.boxes, modal)


def places_that_lead_out(visit, modal):
    return [place for place in range(len(visit.boxes)) if leads_out(visit, modal, place)]
