"""What a piece's corners must be, and what they tell.

A corner is a point as it's kept: x and y, each a number in lowest terms. What lies where is found out from whole
corners: all over one number below the line, and only what's above it.
"""

from seamdrafts.exact import lowest, minus, plus, times

FEWEST_CORNERS = 3
MOST_CORNERS = 16

OUTSIDE = 0
ON_RIM = 1
INSIDE = 2


def common_below(corners):
    """A whole number above 0 that may stand below the line in every corner's numbers."""
    below = 1
    for x, y in corners:
        below = below * x[1] * y[1]
    return below


def whole_corners(corners, below):
    """What is above the line in the corners' numbers with this below it."""
    return [(x[0] * (below // x[1]), y[0] * (below // y[1])) for x, y in corners]


def all_whole(corners):
    """The corners as whole ones."""
    return whole_corners(corners, common_below(corners))


def side(a, b, c):
    """Above 0 where c lies to the left of the way from a to b, below 0 to its right, 0 on its line."""
    return (b[0] - a[0]) * (c[1] - a[1]) - (b[1] - a[1]) * (c[0] - a[0])


def apart(a, b, c, d):
    """Whether both of the numbers a and b are below both of c and d, or above them."""
    return max(a, b) < min(c, d) or max(c, d) < min(a, b)


def have_common_point(a, b, c, d):
    """Whether the edges from a to b and from c to d have a point in common, an end too."""
    if apart(a[0], b[0], c[0], d[0]) or apart(a[1], b[1], c[1], d[1]):
        return False
    return side(a, b, c) * side(a, b, d) <= 0 and side(c, d, a) * side(c, d, b) <= 0


def after(row, index):
    """What comes after the one at this index in a row that goes round."""
    return row[(index + 1) % len(row)]


def edges_keep_apart(corners):
    """Whether edges that aren't next to one another have no point in common."""
    for first in range(len(corners)):
        for second in range(first + 2, len(corners)):
            following = (second + 1) % len(corners)
            if following != first and have_common_point(
                corners[first], corners[first + 1], corners[second], corners[following]
            ):
                return False
    return True


def twice_area(corners):
    """Twice the area that whole corners go round counterclockwise; below 0 if it's clockwise."""
    area = 0
    for index, corner in enumerate(corners):
        following = after(corners, index)
        area += corner[0] * following[1] - corner[1] * following[0]
    return area


def are_corners(corners):
    """Whether points, in this order, may be a piece's corners.

    An edge with no length needs no look of its own: the edges before and behind it have a point in common. Nor
    does one that goes back along the one before it: the shorter of the two ends on the longer, and so the edge
    next to it there touches that. Where there are but three edges, all next to one another, there's no area then.
    """
    whole = all_whole(corners)
    return edges_keep_apart(whole) and twice_area(whole) > 0


def exact_area(corners):
    """Twice the area of a piece with these corners; None if it's too fine."""
    below = common_below(corners)
    return lowest((twice_area(whole_corners(corners, below)), below * below))


def edge_length(corners, edge):
    """The length of an edge, as its square; not always in lowest terms."""
    a = corners[edge]
    b = after(corners, edge)
    across = minus(b[0], a[0])
    up = minus(b[1], a[1])
    return plus(times(across, across), times(up, up))


def edges_through(whole, spot):
    """The edges of whole corners on which a whole point lies."""
    # The point stands for an edge with no length.
    return [
        index for index, corner in enumerate(whole)
        if have_common_point(corner, after(whole, index), spot, spot)
    ]


def goes_round(whole, spot):
    """Whether whole corners go round a whole point that is on no edge.

    They do if an odd number of edges crosses the way from it to the right. An edge has its lower end for this, but
    not its upper one: so at a corner on that way one edge crosses it, or both or none where they turn back there.
    """
    crossed = False
    for index, corner in enumerate(whole):
        following = after(whole, index)
        turned = side(corner, following, spot)
        upward = corner[1] <= spot[1] < following[1]
        downward = following[1] <= spot[1] < corner[1]
        if (upward and turned > 0) or (downward and turned < 0):
            crossed = not crossed
    return crossed


def where_among(whole, spot):
    """Where a whole point lies: inside of a piece with these whole corners, on its rim or outside."""
    if edges_through(whole, spot) != []:
        return ON_RIM
    return INSIDE if goes_round(whole, spot) else OUTSIDE


def edges_at(corners, point):
    """The edges on which a point lies."""
    whole = all_whole(corners + [point])
    return edges_through(whole[:-1], whole[-1])


def where_lies(corners, point):
    """Where a point lies: inside of a piece with these corners, on its rim or outside."""
    whole = all_whole(corners + [point])
    return where_among(whole[:-1], whole[-1])


def is_straight_cut(corners, first, second):
    """Whether there's a straight cut from one corner of a piece to another, each told from 0.

    Corners that are next to one another need no look of their own, as then the middle is on the rim. Nor do other
    corners: one that the cut goes through is of an edge that ends at neither of the two, or it's next to both, and
    then the cut goes along their edges and so does its middle.
    """
    if max(first, second) >= len(corners):
        return False
    # With doubled corners a middle is whole, too.
    doubled = [(2 * x, 2 * y) for x, y in all_whole(corners)]
    a = doubled[first]
    b = doubled[second]
    for index, corner in enumerate(doubled):
        following = (index + 1) % len(corners)
        of_ends = index in (first, second) or following in (first, second)
        if not of_ends and have_common_point(a, b, corner, doubled[following]):
            return False
    middle = ((a[0] + b[0]) // 2, (a[1] + b[1]) // 2)
    return where_among(doubled, middle) == INSIDE
