"""A second program for the same calls, told from the document in another way: by patterns, sets and ids."""

import re

from tests.calling import FIRST_RULES

KINDS = [line.split(" ")[0] for line in FIRST_RULES]
ID = r"(?!(?:label|by|hint|hidden|off|on|order|press)(?![a-z]))[a-z]{1,6}"
SAYING = r'"(?=[^"]{1,20}")[A-Za-z0-9]+(?: [A-Za-z0-9]+)*"'
BOX = re.compile(
    r"(?P<deep>(?:  ){0,5})(?P<kind>" + "|".join(KINDS) + r") (?P<id>" + ID + r")(?: (?P<text>" + SAYING + r"))?"
    r"(?: label (?P<label>" + SAYING + r"))?(?: by (?P<by>" + ID + "(?: " + ID + r"){0,2}))?(?: hint (?P<hint>" + ID + r"))?"
    r"(?P<hidden> hidden)?(?P<off> off)?(?P<on> on)?(?: order (?P<order>[1-9]))?"
    r"(?: press (?P<acts>(?:show|hide|flip):" + ID + "(?: (?:show|hide|flip):" + ID + r"){0,2}))?\n")
RULE = r"(?P<kind>{}) (?P<role>(?!(?:focus|whole|from)(?![a-z]))[a-z]{{1,8}})(?P<focus> focus)?(?P<whole> whole)?" \
       r"(?: from (?P<sources>(?:by|label|text|kids|hint)(?: (?:by|label|text|kids|hint))*))?\n"
NEEDS = {"row": {"table"}, "cell": {"row"}, "th": {"row"}, "item": {"list"}}
HOLDS = {"table": {"row"}, "row": {"cell", "th"}, "list": {"item"}}


def read_page(text):
    """The boxes of a page's text as dicts, or None."""
    lines = text.splitlines(keepends=True) if re.fullmatch(r"[ -~\n]*", text) else [""]
    found = [BOX.fullmatch(line) for line in lines]
    if not 1 <= len(found) <= 16 or None in found:
        return None
    boxes = [match.groupdict() for match in found]
    path = []
    for place, box in enumerate(boxes):
        deep = len(box["deep"]) // 2
        if deep > len(path) or (deep == 0) != (place == 0) or (box["kind"] == "page") != (place == 0):
            return None
        path = path[:deep]
        box["around"] = [outer["id"] for outer in path]
        outer = path[-1]["kind"] if path else "none"
        if outer not in NEEDS.get(box["kind"], {outer}) or box["kind"] not in HOLDS.get(outer, {box["kind"]}):
            return None
        path.append(box)
        box["by"] = (box["by"] or "").split()
        box["acts"] = [tuple(act.split(":")) for act in (box["acts"] or "").split()]
        if (box["on"] and box["kind"] != "check") or len(set(box["by"])) != len(box["by"]):
            return None
        if box["acts"] and box["kind"] not in ("link", "button", "check"):
            return None
    ids = [box["id"] for box in boxes]
    named = [name for box in boxes for name in box["by"] + [act[1] for act in box["acts"]] + [box["hint"] or ids[0]]]
    return None if boxes[0]["hidden"] or len(set(ids)) != len(ids) or set(named) - set(ids) else boxes


def read_rules(text):
    match = re.fullmatch("".join("(" + re.sub(r"\?P<\w+>", "?:", RULE.format(kind)) + ")" for kind in KINDS), text)
    if not match:
        return None
    told = {}
    for kind, line in zip(KINDS, match.groups()):
        told[kind] = re.fullmatch(RULE.format(kind), line).groupdict()
        sources = (told[kind]["sources"] or "").split()
        if len(set(sources)) != len(sources):
            return None
        told[kind]["sources"] = sources
    return told


class Model:
    def __init__(self):
        self.turn_to(read_page("page top\n"))
        self.rules = read_rules("".join(line + "\n" for line in FIRST_RULES))

    def turn_to(self, boxes):
        self.boxes = {box["id"]: box for box in boxes}
        self.ids = list(self.boxes)
        self.hidden = {box["id"] for box in boxes if box["hidden"]}
        self.on = {box["id"] for box in boxes if box["on"]}
        self.here = self.ids[0]

    def rule(self, name):
        return self.rules[self.boxes[name]["kind"]]

    def visible(self):
        return [name for name in self.ids if not self.hidden & {name, *self.boxes[name]["around"]}]

    def modal(self):
        return ([None] + [name for name in self.visible() if self.boxes[name]["kind"] == "modal"])[-1]

    def reached(self):
        inside = [name for name in self.visible() if not self.boxes[name]["off"]]
        return [name for name in inside if self.modal() in [None] * (not self.modal()) + self.boxes[name]["around"]]

    def heard(self, number):
        classes = ["", "h1 h2 h3", "", "link", "field check", "table", "list"]
        told = []
        for name in self.visible():
            around = self.boxes[name]["around"]
            if any(self.rule(outer)["whole"] for outer in around) or (self.modal() and self.modal() not in around + [name]):
                continue
            of_class = self.boxes[name]["kind"] in classes[number].split()
            if number == 0 or (number == 2 and self.rule(name)["focus"]) or of_class:
                told.append(name)
        return told

    def order(self):
        names = [name for name in self.reached() if self.rule(name)["focus"]]
        return sorted(names, key=lambda name: (int(self.boxes[name]["order"] or 10), self.ids.index(name)))

    def name(self, name, inner):
        return self.named(name, inner)[1]

    def named(self, name, inner):
        """The source that a name comes from, and the name."""
        box = self.boxes[name]
        kids = [other for other in self.ids if self.boxes[other]["around"][-1:] == [name] and other not in self.hidden]
        for source in self.rule(name)["sources"]:
            if source in ("label", "text"):
                given = [(box[source] or "").strip('"')]
            elif source == "kids":
                given = [self.name(kid, True) for kid in kids]
            elif inner:
                given = []
            else:
                given = [self.name(other, True) for other in (box["by"] if source == "by" else [box["hint"]]) if other]
            if any(given):
                return source, " ".join(filter(None, given))
        return None, ""

    def said(self, name):
        box = self.boxes[name]
        source, told = self.named(name, False)
        hint = self.name(box["hint"], True) if box["hint"] and source != "hint" else ""
        words = self.rule(name)["role"]
        words += {"h1": " 1", "h2": " 2", "h3": " 3"}.get(box["kind"], "")
        words += ' "' + told + '"' if told else ""
        words += " off" if box["off"] else ""
        words += (" on" if name in self.on else " not on") if box["kind"] == "check" else ""
        words += ' hint "' + hint + '"' if hint else ""
        words += " text " + box["text"] if box["text"] and source != "text" and not self.rule(name)["whole"] else ""
        return words

    def grid(self, table):
        """The boxes of the grid by row and column, and how many rows it has."""
        found = {}
        rows = self.shown_in(table)
        for row, outer in enumerate(rows):
            for column, name in enumerate(self.shown_in(outer)):
                found[row, column] = name
        return found, len(rows)

    def shown_in(self, outer):
        return [name for name in self.ids if name not in self.hidden and self.boxes[name]["around"][-1:] == [outer]]

    def cell(self, number, way, name):
        if self.boxes[name]["kind"] not in ("cell", "th"):
            return [-5]
        found = self.grid(self.boxes[name]["around"][-2])[0]
        if name not in found.values():
            return [-6]
        row, column = [spot for spot, other in found.items() if other == name][0]
        ths = {spot: other for spot, other in found.items() if self.boxes[other]["kind"] == "th"}
        above = [ths[spot] for spot in sorted(ths) if spot[1] == column and spot[0] < row]
        before = [ths[spot] for spot in sorted(ths) if spot[0] == row and spot[1] < column]
        if number == 10:
            return listed(above) + listed(before)
        if number == 12:
            return coded(" ".join(filter(None, [self.name(other, False) for other in above + before + [name]])))
        spot = [(row, column - 1), (row, column + 1), (row - 1, column), (row + 1, column)][way]
        return [1] + coded(found[spot]) if spot in found else [0]

    def escape(self):
        modal = self.modal()
        if not modal:
            return [0]
        out = []
        for name in self.ids:
            kept = self.hidden, self.on
            if self.press(name)[0] >= 0 and modal not in self.visible():
                out.append(name)
            self.hidden, self.on = kept
        return [1] + coded(modal) + listed(out)

    def go(self, places, number):
        if number not in range(7):
            return [-2]
        heard = self.heard(number)
        found = [name for name in places if name in heard]
        if not found:
            return [0]
        self.here = found[0]
        return [1] + coded(found[0]) + coded(self.said(found[0]))

    def press(self, name):
        box = self.boxes[name]
        if box["kind"] != "check" and not box["acts"]:
            return [-5]
        if name not in self.reached():
            return [-6]
        if box["kind"] == "check":
            self.on = self.on ^ {name}
        for deed, other in box["acts"]:
            self.hidden = {"show": self.hidden - {other}, "hide": self.hidden | {other}, "flip": self.hidden ^ {other}}[deed]
        return [len(self.hidden), len(self.on)]

    def answer(self, call):
        number = call[0]
        if number in (3, 8, 13, 14, 17):
            return self.tell(number)
        if number in (15, 16):
            cut = self.ids.index(self.here)
            return self.go(self.ids[cut + 1:] if number == 15 else self.ids[:cut][::-1], call[1])
        text = bytes(call[3 if number in (6, 7, 11) else 2:]).decode("latin-1")
        if number in (0, 1):
            return self.take(number, text)
        if (number in (6, 7) and call[1] not in range(7)) or (number == 11 and call[1] not in range(4)):
            return [-2]
        if text not in self.ids:
            return [-3]
        if number == 9:
            return self.rows(text)
        if number in (10, 11, 12):
            return self.cell(number, call[1], text)
        return self.press(text) if number == 2 else self.step(number, call[1], text)

    def tell(self, number):
        if number == 3:
            return listed(self.order())
        if number == 8:
            told = [[int(self.boxes[name]["kind"][1])] + coded(name) + coded(self.name(name, False)) for name in self.heard(1)]
            return [len(told)] + sum(told, [])
        if number == 13:
            return self.escape()
        if number == 14:
            return coded(self.here) + [int(self.here in self.heard(0))]
        return [len(self.heard(0)), len(self.order()), len(self.heard(1))]

    def rows(self, name):
        if self.boxes[name]["kind"] != "table":
            return [-5]
        found, count = self.grid(name)
        return [count] + sum([listed([found[spot] for spot in sorted(found) if spot[0] == row]) for row in range(count)], [])

    def take(self, number, text):
        found = read_page(text) if number == 0 else read_rules(text)
        if found is None:
            return [-1]
        if number == 0:
            self.turn_to(found)
            return [len(found)]
        self.rules = found
        return [sum(1 for rule in found.values() if rule["focus"])]

    def step(self, number, of, name):
        if number in (4, 5):
            order = self.order() * 2
            if name not in order:
                return [-6]
            return coded(order[order.index(name) + 1] if number == 4 else order[::-1][order[::-1].index(name) + 1])
        cut = self.ids.index(name)
        places = self.ids[cut + 1:] if number == 6 else self.ids[:cut][::-1]
        heard = self.heard(of)
        found = [other for other in places if other in heard]
        return [1] + coded(found[0]) if found else [0]


def coded(text):
    return [len(text)] + list(text.encode("ascii"))


def listed(texts):
    return [len(texts)] + sum([coded(text) for text in texts], [])
