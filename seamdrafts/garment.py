"""Places, and which of them are one in the garment.

A place is a piece, told from 0, and a point in it as it's kept.
"""

from seamdrafts.exact import lowest, minus, over, plus, times
from seamdrafts.pieces import after, common_below, edges_at, whole_corners
from seamdrafts.refusals import TooFine


def ends(pattern, edge):
    """The corners from and to which an edge goes."""
    corners = pattern.pieces[edge[0]].corners
    return (corners[edge[1]], after(corners, edge[1]))


def part_of_way(a, b, point):
    """At which part of the way from a to b, which aren't one, a point of that way lies."""
    along = 0 if a[0] != b[0] else 1
    return over(minus(point[along], a[along]), minus(b[along], a[along]))


def number_at(part, a, b):
    """The number at this part of the way from one to another; TooFine if it can't be told."""
    number = lowest(plus(a, times(part, minus(b, a))))
    if number is None:
        raise TooFine()
    return number


def partner(pattern, edge, other, point):
    """The place on the other edge that's one with this point on an edge; TooFine if it can't be told."""
    way = ends(pattern, edge)
    # The one edge's beginning comes to the other's end.
    back = ends(pattern, other)
    part = part_of_way(way[0], way[1], point)
    x = number_at(part, back[1][0], back[0][0])
    y = number_at(part, back[1][1], back[0][1])
    return (other[0], (x, y))


def partners(pattern, place):
    """The places that are one with this by a seam of an edge on which it lies."""
    found = []
    for index in edges_at(pattern.pieces[place[0]].corners, place[1]):
        edge = (place[0], index)
        other = pattern.sewn_to(edge)
        if other is not None:
            found.append(partner(pattern, edge, other, place[1]))
    return found


def in_order(places):
    """The places by piece, then x, then y."""
    below = common_below([place[1] for place in places])
    return sorted(places, key=lambda place: (place[0], whole_corners([place[1]], below)[0]))


def places_one_with(pattern, place):
    """All places that are one with this, itself too, in their order; TooFine if one can't be told."""
    found = [place]
    looked_at = 0
    while looked_at < len(found):
        others = partners(pattern, found[looked_at])
        for other in others:
            if other not in found:
                found.append(other)
        looked_at += 1
    return in_order(found)
