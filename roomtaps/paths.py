"""Paths through a room, by the walls at which they turn."""

from roomtaps.plans import point_between
from roomtaps.walls import clear, front_of, in_open_wall, mirrored


# Walls that may make a path: images[j] is the start mirrored in the first j of
# them, one after another, so that the way to it is as long as the path.
class Trail:
    def __init__(self, walls, images):
        self.walls = walls
        self.images = images


class Path:
    def __init__(self, walls, length_squared):
        self.walls = walls
        self.length_squared = length_squared


# Paths from start to goal, both inside, of at most so many turns.
def find_paths(room, start, goal, most):
    trails = [Trail([], [start])]
    paths = paths_of_trails(room, trails, goal)
    for turns in range(most):
        trails = longer_trails(room, trails)
        paths = paths + paths_of_trails(room, trails, goal)
    return paths


def longer_trails(room, trails):
    longer = []
    for trail in trails:
        for wall in range(len(room.stuffs)):
            image = mirrored(room, wall, trail.images[-1])
            longer.append(Trail(trail.walls + [wall], trail.images + [image]))
    return longer


def paths_of_trails(room, trails, goal):
    paths = []
    for trail in trails:
        if is_path(room, trail, goal):
            paths.append(Path(trail.walls, square_between(trail.images[-1], goal)))
    return paths


# The turns are found from the goal back: at each, the way on comes straight
# from the image behind that wall.
def is_path(room, trail, goal):
    behind = goal
    for turn in range(len(trail.walls) - 1, -1, -1):
        point = turn_point(room, trail.walls[turn], trail.images[turn + 1], behind)
        if point is None or not clear(room, point, behind):
            return False
        behind = point
    return clear(room, trail.images[0], behind)


# Where the line from the image to the point behind it goes through the open wall, or None.
def turn_point(room, wall, image, behind):
    image_front = front_of(room, wall, image)
    behind_front = front_of(room, wall, behind)
    if image_front * behind_front >= 0:
        return None
    point = point_between(image, behind, abs(image_front), abs(behind_front))
    if not in_open_wall(room, wall, point):
        return None
    return point


# For points with whole coordinates.
def square_between(p, q):
    right = q.x - p.x
    up = q.y - p.y
    high = q.z - p.z
    return right * right + up * up + high * high
