"""The object that the calls are made on: it holds a sky, or none yet."""

from tideskies.judge import judge
from tideskies.lines import ANGLE
from tideskies.printer import printed_lines
from tideskies.reader import read_lines
from tideskies.refusals import NoSky, NotThere, OutOfRange
from tideskies.standing import are_apart, factor_of, places_of, speed_of
from tideskies.waves import waves_of

FIRST_MINUTE = -2147483648
LAST_MINUTE = 2147483647
MOST_PLACES = 256


class Sky:
    def __init__(self, lines):
        self.angles = [line for line in lines if line.word == ANGLE]
        self.waves = waves_of(lines)
        self.numbers = dict([(wave.name, k) for k, wave in enumerate(self.waves)])
        # Kept, as one sky may be printed some hundred times.
        self.printed = printed_lines(lines)


class Holder:
    def __init__(self):
        self.sky = None

    # A text at fault is refused before the sky is replaced.
    def take_sky(self, text):
        lines = read_lines(text)
        judge(lines)
        self.sky = Sky(lines)

    def held_sky(self):
        if self.sky is None:
            raise NoSky()
        return self.sky

    def wave(self, number):
        waves = self.held_sky().waves
        if number >= len(waves):
            raise NotThere()
        return waves[number]

    def wave_number(self, name):
        numbers = self.held_sky().numbers
        if tuple(name) not in numbers:
            raise NotThere()
        return numbers[tuple(name)]

    def speed(self, number):
        return speed_of(self.wave(number))

    # The place, then the factor.
    def place_and_factor(self, number, minute, steady_minute):
        wave = self.wave(number)
        need_minute(minute)
        need_minute(steady_minute)
        return places_of(wave, minute, 1, steady_minute) + [factor_of(wave, steady_minute)]

    def places(self, number, minute, steady_minute, many):
        wave = self.wave(number)
        need_minute(minute)
        need_minute(steady_minute)
        if many > MOST_PLACES:
            raise OutOfRange()
        if many > 0:
            need_minute(minute + many - 1)
        return places_of(wave, minute, many, steady_minute)

    def can_be_told_apart(self, number, other, minutes):
        return are_apart(self.wave(number), self.wave(other), minutes)


def need_minute(minute):
    if minute < FIRST_MINUTE or minute > LAST_MINUTE:
        raise OutOfRange()
