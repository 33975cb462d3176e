"""Answers calls on one sky."""

from tideskies.holder import Holder
from tideskies.refusals import AtFault, NoSky, NotThere, OutOfRange

SKY = 0
PRINT = 1
SIZE = 2
NAME = 3
FIND = 4
SPEED = 5
PLACE = 6
ROW = 7
APART = 8

# How many whole numbers stand behind each call's number, before its row if it has one.
WHOLE_NUMBERS = (0, 0, 0, 1, 0, 1, 3, 4, 3)


# behind: the place in the list behind the call's last number.
class Call:
    def __init__(self, number, given, row, behind):
        self.number = number
        self.given = given
        self.row = row
        self.behind = behind


def answers(calls):
    holder = Holder()
    told = []
    place = 0
    while place < len(calls):
        call = read_call(calls, place)
        answer = answer_or_refusal(holder, call)
        told.append(len(answer))
        told.extend(answer)
        place = call.behind
    return told


# A call is read to its end before it is answered, as a refused one is passed over whole, too.
def read_call(calls, place):
    number = calls[place]
    behind = place + 1 + WHOLE_NUMBERS[number]
    given = calls[place + 1:behind]
    row = []
    if number in (SKY, FIND):
        start = behind + 1
        behind = start + calls[behind]
        row = calls[start:behind]
    return Call(number, given, row, behind)


def answer_or_refusal(holder, call):
    try:
        return answer_to(holder, call)
    except OutOfRange:
        return [-1]
    except NoSky:
        return [-3]
    except NotThere:
        return [-4]
    except AtFault as fault:
        return [-6, fault.kind, fault.place]


def answer_to(holder, call):
    if call.number == SKY:
        holder.take_sky(call.row)
        return [0]
    if call.number == PRINT:
        return counted(holder.held_sky().printed)
    if call.number == SIZE:
        sky = holder.held_sky()
        return [0, len(sky.angles), len(sky.waves)]
    if call.number == NAME:
        return counted(holder.wave(call.given[0]).name)
    if call.number == FIND:
        return [holder.wave_number(call.row)]
    return answer_of_time(holder, call.number, call.given)


# The calls about how waves go with time.
def answer_of_time(holder, number, given):
    if number == SPEED:
        return [0] + holder.speed(given[0])
    if number == PLACE:
        return [0] + holder.place_and_factor(given[0], given[1], given[2])
    if number == ROW:
        return counted(holder.places(given[0], given[1], given[2], given[3]))
    return [1 if holder.can_be_told_apart(given[0], given[1], given[2]) else 0]


def counted(row):
    return [0, len(row)] + list(row)
