"""Boxes, and how they stand in one another.

A page is a list of boxes; a box's place is its index in that list.
"""

from pagemoves.refusals import NoSuchBox

KINDS = (
    "page", "part", "h1", "h2", "h3", "p", "link", "button", "field", "check",
    "list", "item", "table", "row", "cell", "th", "image", "live", "modal",
)

NOWHERE = -1


class Box:
    def __init__(self, deep, kind, ident):
        self.deep = deep
        self.kind = kind
        self.ident = ident
        self.parent = NOWHERE
        # No saying and no id is empty: the empty text stands for none.
        self.text = ""
        self.label = ""
        self.by = []
        self.hint = ""
        self.hidden = False
        self.off = False
        self.on = False
        # 0 stands for no number in the order of focus.
        self.order = 0
        self.acts = []


def has_box(boxes, ident):
    return any([box.ident == ident for box in boxes])


def place_of(boxes, ident):
    for place, box in enumerate(boxes):
        if box.ident == ident:
            return place
    raise NoSuchBox()


def own_places(boxes, place):
    return [inner for inner, box in enumerate(boxes) if box.parent == place]


def places_around(boxes, place):
    around = []
    outer = boxes[place].parent
    while outer != NOWHERE:
        around.append(outer)
        outer = boxes[outer].parent
    return around
