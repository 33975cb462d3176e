"""What a sky's text says, line by line.

A name is a tuple of bytes. A place is how many bytes of the text stand before the name.
A NUMBER is kept exactly, as a whole number of its last decimal place's units (ONE of them are 1).
"""

ANGLE = "angle"
WAVE = "wave"
SUM = "sum"

DECIMALS = 12
ONE = 1000000000000


# The sign is 1 or -1.
class Term:
    def __init__(self, sign, count, name, place):
        self.sign = sign
        self.count = count
        self.name = name
        self.place = place


# A factor or a shift: a NUMBER and the terms of its SUM.
class Swing:
    def __init__(self, number, terms):
        self.number = number
        self.terms = terms


class AngleLine:
    def __init__(self, name, place, phase, rate):
        self.word = ANGLE
        self.name = name
        self.place = place
        self.phase = phase
        self.rate = rate


# The turn is 0 where none is told.
class WaveLine:
    def __init__(self, name, place, terms, turn, factors, shifts):
        self.word = WAVE
        self.name = name
        self.place = place
        self.terms = terms
        self.turn = turn
        self.factors = factors
        self.shifts = shifts


class SumLine:
    def __init__(self, name, place, terms):
        self.word = SUM
        self.name = name
        self.place = place
        self.terms = terms
