"""Where waves and sums stand, how large their factors are, and how fast they go."""

from tideskies.circles import CIRCLE, RAY, cosine, sine
from tideskies.lines import ONE
from tideskies.waves import TURN, UNIT


# In lowest terms, of a turn in a minute.
def speed_of(wave):
    growth = wave.argument.growth
    divisor = common_divisor(abs(growth), TURN)
    return [growth // divisor, TURN // divisor]


def common_divisor(one, other):
    while one > 0:
        rest = other % one
        other = one
        one = rest
    return other


def are_apart(wave, other, minutes):
    return abs(wave.argument.growth - other.argument.growth) * minutes >= TURN


# Where it stands at so many minutes, one behind another. The shift is the same for all of them.
def places_of(wave, first_minute, many, steady_minute):
    shift = shift_of(wave, steady_minute)
    places = []
    for minute in range(first_minute, first_minute + many):
        places.append(cut(wave.argument.at(minute) * RAY + shift, TURN * RAY))
    return places


# The greatest angle that is not above so many parts, of those that a turn has.
def cut(parts, turn):
    return parts * CIRCLE // turn % CIRCLE


# Told in RAYths of a part, so that the sines need no division.
def shift_of(wave, minute):
    shift = 0
    for member in wave.members:
        for sway in member.shifts:
            shift = shift + member.count * UNIT * sway.number * sine(cut(sway.course.at(minute), TURN))
    return shift


def factor_of(wave, minute):
    product = RAY
    divisor = 1
    for member in wave.members:
        factor = factor_of_member(member, minute)
        for step in range(abs(member.count)):
            product = product * factor
            divisor = divisor * RAY
    return nearest(product, divisor)


def factor_of_member(member, minute):
    swings = sum([sway.number * cosine(cut(sway.course.at(minute), TURN)) for sway in member.factors])
    return nearest(RAY * ONE + swings, ONE)


# A tie goes to the greater.
def nearest(total, divisor):
    return (2 * total + divisor) // (2 * divisor)
