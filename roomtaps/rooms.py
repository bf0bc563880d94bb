"""Rooms as lists of numbers, and the first fault of such a list."""

from roomtaps.plans import Edge, Point, edges_meet

HEAD_COUNT = 3
CORNER_COUNT = 3
FEWEST_CORNERS = 3
MOST_CORNERS = 64
MOST_COORDINATE = 4095
MOST_STUFF = 7


# What a list without a fault says.
class Room:
    def __init__(self, numbers):
        self.height = numbers[0]
        self.edges = read_edges(numbers)
        # By wall: the floor and the ceiling come behind all side walls.
        self.stuffs = [corner[2] for corner in read_corners(numbers)] + [numbers[1], numbers[2]]


# Of each corner x, y and the stuff of its wall.
def read_corners(numbers):
    return [tuple(numbers[i:i + CORNER_COUNT]) for i in range(HEAD_COUNT, len(numbers), CORNER_COUNT)]


def read_edges(numbers):
    points = [Point(corner[0], corner[1], 0, 1) for corner in read_corners(numbers)]
    edges = []
    for i in range(len(points)):
        edges.append(Edge(points[i], points[(i + 1) % len(points)]))
    return edges


# The fault's rule and wall, or None.
def room_fault(numbers):
    if not count_holds(len(numbers)):
        return (1, 0)
    if not head_holds(numbers):
        return (2, 0)
    corners = read_corners(numbers)
    for i in range(len(corners)):
        if not corner_holds(corners[i]):
            return (3, i)
    return edges_fault(read_edges(numbers))


def count_holds(count):
    if count < HEAD_COUNT or (count - HEAD_COUNT) % CORNER_COUNT != 0:
        return False
    return FEWEST_CORNERS <= (count - HEAD_COUNT) // CORNER_COUNT <= MOST_CORNERS


def head_holds(numbers):
    return 1 <= numbers[0] <= MOST_COORDINATE and stuff_holds(numbers[1]) and stuff_holds(numbers[2])


def corner_holds(corner):
    return coordinate_holds(corner[0]) and coordinate_holds(corner[1]) and stuff_holds(corner[2])


def coordinate_holds(coordinate):
    return 0 <= coordinate <= MOST_COORDINATE


def stuff_holds(stuff):
    return 0 <= stuff <= MOST_STUFF


def edges_fault(edges):
    for i in range(len(edges)):
        if not direction_holds(edges[i]):
            return (4, i)
    for i in range(len(edges)):
        if parallel(edges[i], edges[(i + 1) % len(edges)]):
            return (5, i)
    for i in range(len(edges)):
        if meets_a_stranger(edges, i):
            return (6, i)
    if twice_area(edges) <= 0:
        return (7, 0)
    return None


def direction_holds(edge):
    if edge.dx == 0 or edge.dy == 0:
        return edge.square > 0
    return abs(edge.dx) == abs(edge.dy)


def parallel(edge, other):
    return edge.dx * other.dy == edge.dy * other.dx


# Neighbours share their corner by right, and nothing else, as they aren't parallel.
def meets_a_stranger(edges, i):
    neighbours = (i, (i + 1) % len(edges), (i - 1) % len(edges))
    for j in range(len(edges)):
        if j not in neighbours and edges_meet(edges[i], edges[j]):
            return True
    return False


# Above 0 if the room is to the left of its lines.
def twice_area(edges):
    return sum([edge.start.x * edge.end.y - edge.end.x * edge.start.y for edge in edges])
