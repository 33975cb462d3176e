"""The object that the calls are made on: it holds a sky, or none yet."""

from tideskies.judge import judge
from tideskies.lines import ANGLE
from tideskies.printer import printed_lines
from tideskies.reader import read_lines
from tideskies.refusals import NoSky, NotThere


class Sky:
    def __init__(self, lines):
        self.angles = [line for line in lines if line.word == ANGLE]
        self.waves = [line for line in lines if line.word != ANGLE]
        self.numbers = dict([(line.name, k) for k, line in enumerate(self.waves)])
        # Kept, as one sky may be printed some hundred times.
        self.printed = printed_lines(lines)


class Holder:
    def __init__(self):
        self.sky = None

    # A text at fault is refused before the sky is replaced.
    def take_sky(self, text):
        lines = read_lines(text)
        judge(lines)
        self.sky = Sky(lines)

    def held_sky(self):
        if self.sky is None:
            raise NoSky()
        return self.sky

    def wave(self, number):
        waves = self.held_sky().waves
        if number >= len(waves):
            raise NotThere()
        return waves[number]

    def wave_number(self, name):
        numbers = self.held_sky().numbers
        if tuple(name) not in numbers:
            raise NotThere()
        return numbers[tuple(name)]
