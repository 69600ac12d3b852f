"""The grid of a table: its cells and ths, and their heads."""

from pagemoves.boxes import NOWHERE, place_of
from pagemoves.names import full_name, put_together
from pagemoves.refusals import NotNow, WrongKind
from pagemoves.visits import shown_own_places

CELL_KINDS = ("cell", "th")

# For each way of move the steps by row and by column: left, right, above, below.
WAYS = ((0, -1), (0, 1), (-1, 0), (1, 0))
LAST_WAY = 3


class Spot:
    def __init__(self, grid, row, column):
        self.grid = grid
        self.row = row
        self.column = column


def grid_of(visit, table):
    return [shown_own_places(visit, row) for row in shown_own_places(visit, table)]


def spot_of(visit, place):
    row_place = visit.boxes[place].parent
    grid = grid_of(visit, visit.boxes[row_place].parent)
    for row, places in enumerate(grid):
        if place in places:
            return Spot(grid, row, places.index(place))
    raise NotNow()


def cell_spot(visit, ident):
    place = place_of(visit.boxes, ident)
    if visit.boxes[place].kind not in CELL_KINDS:
        raise WrongKind()
    return spot_of(visit, place)


# The rows of a grid may be of unlike length.
def place_at(grid, row, column):
    if row < 0 or row >= len(grid) or column < 0 or column >= len(grid[row]):
        return NOWHERE
    return grid[row][column]


def place_beside(spot, way):
    step = WAYS[way]
    return place_at(spot.grid, spot.row + step[0], spot.column + step[1])


def only_ths(visit, places):
    found = [place for place in places if place != NOWHERE]
    return [place for place in found if visit.boxes[place].kind == "th"]


def heads_above(visit, spot):
    return only_ths(visit, [place_at(spot.grid, row, spot.column) for row in range(spot.row)])


def heads_before(visit, spot):
    return only_ths(visit, spot.grid[spot.row][:spot.column])


def sentence_of(visit, spot):
    places = heads_above(visit, spot) + heads_before(visit, spot)
    places.append(spot.grid[spot.row][spot.column])
    return put_together([full_name(visit, place) for place in places])
