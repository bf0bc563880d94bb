"""Points, and a room's lines as they are seen from above."""


# A point with broken coordinates: x, y and z are all to be divided by over,
# which is above 0, so that signs may be read without dividing.
class Point:
    def __init__(self, x, y, z, over):
        self.x = x
        self.y = y
        self.z = z
        self.over = over


# A side wall's line in plan, from corner to corner.
class Edge:
    def __init__(self, start, end):
        self.start = start
        self.end = end
        self.dx = end.x - start.x
        self.dy = end.y - start.y
        self.square = self.dx * self.dx + self.dy * self.dy


# The point between p and q whose distances from them are as near_p to near_q,
# each of these told times its own point's over, as left_of tells them.
def point_between(p, q, near_p, near_q):
    return Point(
        near_q * p.x + near_p * q.x,
        near_q * p.y + near_p * q.y,
        near_q * p.z + near_p * q.z,
        near_q * p.over + near_p * q.over,
    )


def middle(p, q):
    return point_between(p, q, p.over, q.over)


# Above 0 to the left of the edge, 0 on its line, below 0 to the right.
def left_of(edge, point):
    right = point.x - edge.start.x * point.over
    up = point.y - edge.start.y * point.over
    return edge.dx * up - edge.dy * right


# How far along the edge: 0 at its start, edge.square * point.over at its end.
def along(edge, point):
    right = point.x - edge.start.x * point.over
    up = point.y - edge.start.y * point.over
    return edge.dx * right + edge.dy * up


def on_edge(edge, point):
    if left_of(edge, point) != 0:
        return False
    return 0 <= along(edge, point) <= edge.square * point.over


# Of an edge only the lower end counts as reached, so that a corner at the
# point's own height is counted once for its two edges.
def winding(edge, point):
    starts_below = edge.start.y * point.over <= point.y
    ends_below = edge.end.y * point.over <= point.y
    side = left_of(edge, point)
    if starts_below and not ends_below and side > 0:
        return 1
    if ends_below and not starts_below and side < 0:
        return -1
    return 0


def strictly_within(edges, point):
    windings = 0
    for edge in edges:
        if on_edge(edge, point):
            return False
        windings = windings + winding(edge, point)
    return windings != 0


# For p and q on the edge's own line.
def overlaps_between(edge, p, q):
    p_along = along(edge, p)
    q_along = along(edge, q)
    some_behind_start = p_along > 0 or q_along > 0
    some_ahead_of_end = p_along < edge.square * p.over or q_along < edge.square * q.over
    return some_behind_start and some_ahead_of_end


# Whether the edge, its corners too, has a point strictly between p and q.
def edge_cuts(edge, p, q):
    p_side = left_of(edge, p)
    q_side = left_of(edge, q)
    if p_side == 0 and q_side == 0:
        return overlaps_between(edge, p, q)
    if p_side * q_side >= 0:
        return False
    return on_edge(edge, point_between(p, q, abs(p_side), abs(q_side)))


def edges_meet(edge, other):
    if on_edge(edge, other.start) or on_edge(edge, other.end):
        return True
    return edge_cuts(edge, other.start, other.end)
