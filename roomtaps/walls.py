"""A room's inside and its walls: the side walls by number, then the floor, then the ceiling."""

from roomtaps.plans import Point, along, edge_cuts, left_of, middle, strictly_within


def inside(room, point):
    return between_floor_and_ceiling(room, point) and strictly_within(room.edges, point)


def between_floor_and_ceiling(room, point):
    return 0 < point.z < room.height * point.over


# For p and q that are inside or in open walls: their heights are at most at
# floor or ceiling, so the middle stands for all points between where no line cuts.
def clear(room, p, q):
    for edge in room.edges:
        if edge_cuts(edge, p, q):
            return False
    return inside(room, middle(p, q))


# Above 0 on the side of the wall's plane where the room is, 0 in the plane.
def front_of(room, wall, point):
    if wall < len(room.edges):
        return left_of(room.edges[wall], point)
    if wall == len(room.edges):
        return point.z
    return room.height * point.over - point.z


# For a point in the wall's plane.
def in_open_wall(room, wall, point):
    if wall >= len(room.edges):
        return strictly_within(room.edges, point)
    edge = room.edges[wall]
    between_corners = 0 < along(edge, point) < edge.square * point.over
    return between_corners and between_floor_and_ceiling(room, point)


# For a point with whole coordinates.
def mirrored(room, wall, point):
    if wall < len(room.edges):
        return mirrored_in_edge(room.edges[wall], point)
    if wall == len(room.edges):
        return Point(point.x, point.y, -point.z, 1)
    return Point(point.x, point.y, 2 * room.height - point.z, 1)


def mirrored_in_edge(edge, point):
    # In steps of one of the eight directions the square is 1 or 2, so that
    # twice the distance over it stays whole.
    longer = max(abs(edge.dx), abs(edge.dy))
    step_x = edge.dx // longer
    step_y = edge.dy // longer
    across = step_x * (point.y - edge.start.y) - step_y * (point.x - edge.start.x)
    moves = across * (2 // (step_x * step_x + step_y * step_y))
    return Point(point.x + moves * step_y, point.y - moves * step_x, point.z, 1)
