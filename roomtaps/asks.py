"""What the call for a room's taps asks, and its answer."""

from roomtaps.books import BANDS, book_fault, path_gain
from roomtaps.delays import path_delay, rate_and_speed_hold
from roomtaps.paths import find_paths
from roomtaps.plans import Point
from roomtaps.rooms import Room, room_fault
from roomtaps.tapsets import taps_answer
from roomtaps.walls import inside

MOST_TURNS = 4


class Ask:
    def __init__(self, numbers, room_row, book):
        self.start = Point(numbers[0], numbers[1], numbers[2], 1)
        self.goal = Point(numbers[3], numbers[4], numbers[5], 1)
        self.most = numbers[6]
        self.band = numbers[7]
        self.rate = numbers[8]
        self.speed = numbers[9]
        self.room_row = room_row
        self.book = book


def ask_answer(ask):
    fault = room_fault(ask.room_row)
    if fault is not None:
        return [-5, fault[0], fault[1]]
    place = book_fault(ask.book)
    if place is not None:
        return [-6, place]
    if not bounds_hold(ask):
        return [-1]
    room = Room(ask.room_row)
    if not inside(room, ask.start) or not inside(room, ask.goal):
        return [-3]
    paths = find_paths(room, ask.start, ask.goal, ask.most)
    return taps_answer([delay_and_gain(ask, room, path) for path in paths])


def bounds_hold(ask):
    return rate_and_speed_hold(ask.rate, ask.speed) and ask.most <= MOST_TURNS and ask.band < BANDS


def delay_and_gain(ask, room, path):
    stuffs = [room.stuffs[wall] for wall in path.walls]
    delay = path_delay(path.length_squared, ask.rate, ask.speed)
    return (delay, path_gain(ask.book, ask.band, stuffs, path.length_squared))
