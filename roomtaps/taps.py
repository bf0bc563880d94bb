"""The calls on a line, one behind another."""

from roomtaps.asks import Ask, ask_answer
from roomtaps.delays import delay_answer
from roomtaps.lines import Line, at_answer, begin_answer, get_answer, past_answer, quiet_answer, run_answer, set_answer
from roomtaps.tapsets import taps_refusal


class UnknownCall(ValueError):
    pass


class Reader:
    def __init__(self, numbers):
        self.numbers = numbers
        self.place = 0

    def at_end(self):
        return self.place >= len(self.numbers)

    def take(self, count):
        start = self.place
        self.place = start + count
        return self.numbers[start:start + count]

    def take_one(self):
        return self.take(1)[0]

    def take_row(self):
        return self.take(self.take_one())


def answers(calls):
    reader = Reader(calls)
    line = Line()
    given = []
    while not reader.at_end():
        answer = call_answer(line, reader)
        given.append(len(answer))
        given.extend(answer)
    return given


def call_answer(line, reader):
    number = reader.take_one()
    if number == 1:
        return read_delay(reader)
    if number == 2:
        return read_ask(reader)
    if number == 3:
        return judge_answer(reader.take_row())
    return line_answer(line, number, reader)


# The calls that the line itself answers.
def line_answer(line, number, reader):
    if number == 4:
        return begin_answer(line)
    if number == 5:
        return set_answer(line, reader.take_row())
    if number == 6:
        return get_answer(line)
    if number == 7:
        return run_answer(line, reader.take_row())
    if number == 8:
        return past_answer(line, reader.take_one())
    if number == 9:
        return at_answer(line)
    if number == 10:
        return quiet_answer(line)
    raise UnknownCall(number)


def read_delay(reader):
    numbers = reader.take(3)
    return delay_answer(numbers[0], numbers[1], numbers[2])


def read_ask(reader):
    numbers = reader.take(10)
    room_row = reader.take_row()
    book = reader.take_row()
    return ask_answer(Ask(numbers, room_row, book))


def judge_answer(taps):
    refusal = taps_refusal(taps)
    if refusal:
        return refusal
    return [0]
