"""Reads the lines of a sky's text, or finds where its grammar is broken.

Every step looks at one byte and refuses it where it stands if nothing that may come there begins
with it. So the place of a fault is the first at which no text of the grammar goes on.
"""

from tideskies.lines import ANGLE, DECIMALS, SUM, WAVE, AngleLine, SumLine, Swing, Term, WaveLine
from tideskies.refusals import GRAMMAR, AtFault
from tideskies.signs import NO_BYTE, codes, is_digit, is_letter

MOST_SIGNS = 7
MOST_DIGITS = 3
MOST_TERMS = 8
MOST_SWINGS = 8


class Reader:
    def __init__(self, text):
        self.text = text
        self.place = 0

    def at_end(self):
        return self.place == len(self.text)

    def ahead(self):
        if self.at_end():
            return NO_BYTE
        return self.text[self.place]

    def sees(self, signs):
        return self.ahead() in codes(signs)

    def take(self):
        byte = self.ahead()
        self.place = self.place + 1
        return byte

    def take_digit(self):
        return self.take() - ord("0")

    def take_word(self, word):
        for sign in word:
            self.need(self.sees(sign))
            self.take()

    def need(self, fits):
        if not fits:
            raise AtFault(GRAMMAR, self.place)


def read_lines(text):
    reader = Reader(text)
    lines = []
    while not reader.at_end():
        lines.append(read_line(reader))
        reader.take_word("\n")
    return lines


# A line that begins with none of the three letters is refused there as a sum's.
def read_line(reader):
    if reader.sees("a"):
        return read_angle_line(reader)
    if reader.sees("w"):
        return read_wave_line(reader)
    return read_sum_line(reader)


def read_angle_line(reader):
    reader.take_word(ANGLE + " ")
    place = reader.place
    name = read_name(reader)
    reader.take_word(" ")
    phase = read_number(reader)
    reader.take_word(" ")
    rate = read_number(reader)
    return AngleLine(name, place, phase, rate)


def read_wave_line(reader):
    reader.take_word(WAVE + " ")
    place = reader.place
    name = read_name(reader)
    reader.take_word(" ")
    terms = read_terms(reader, "tfs")
    turn = read_turn(reader)
    factors = read_swings(reader, "factor ", "fs", "s")
    shifts = read_swings(reader, "shift ", "s", "")
    return WaveLine(name, place, terms, turn, factors, shifts)


def read_sum_line(reader):
    reader.take_word(SUM + " ")
    place = reader.place
    name = read_name(reader)
    reader.take_word(" ")
    return SumLine(name, place, read_terms(reader, ""))


def read_turn(reader):
    if not reader.sees("t"):
        return 0
    reader.take_word("turn ")
    # What begins like none of the three is refused there as a wrong 90.
    turn = 90
    if reader.sees("1"):
        turn = 180
    if reader.sees("2"):
        turn = 270
    reader.take_word(str(turn))
    take_joint(reader, "fs")
    return turn


# followers: the first letters of the words that may stand behind one such, but behind the last
# that a line may have they are last_followers.
def read_swings(reader, word, followers, last_followers):
    swings = []
    while reader.sees(word[0]):
        reader.take_word(word)
        number = read_number(reader)
        reader.take_word(" ")
        is_last = len(swings) == MOST_SWINGS - 1
        terms = read_terms(reader, last_followers if is_last else followers)
        swings.append(Swing(number, terms))
    return swings


# followers: the first letters of the words that may stand behind this SUM.
def read_terms(reader, followers):
    sign = read_sign(reader) if reader.sees("-") else 1
    terms = [read_term(reader, sign)]
    take_joint(reader, followers + "+-")
    while reader.sees("+-"):
        sign = read_sign(reader)
        terms.append(read_term(reader, sign))
        is_last = len(terms) == MOST_TERMS
        take_joint(reader, followers if is_last else followers + "+-")
    return terms


# Leaves the reader before the line's end, or behind a blank and before one of the signs.
def take_joint(reader, signs):
    if reader.sees("\n"):
        return
    # Where nothing may follow a blank, the blank itself is the first that is wrong.
    reader.need(signs != "")
    reader.take_word(" ")
    reader.need(reader.sees(signs))


def read_sign(reader):
    sign = -1 if reader.sees("-") else 1
    reader.take()
    reader.take_word(" ")
    return sign


def read_term(reader, sign):
    count = 1
    if not is_letter(reader.ahead()):
        count = read_count(reader)
        reader.take_word(" ")
    place = reader.place
    return Term(sign, count, read_name(reader), place)


def read_count(reader):
    reader.need(reader.sees("123456789"))
    count = reader.take_digit()
    if count == 1 and reader.sees("012345"):
        count = 10 + reader.take_digit()
    return count


def read_name(reader):
    reader.need(is_letter(reader.ahead()))
    name = [reader.take()]
    while len(name) < MOST_SIGNS and (is_letter(reader.ahead()) or is_digit(reader.ahead())):
        name.append(reader.take())
    return tuple(name)


def read_number(reader):
    sign = 1
    if reader.sees("-"):
        reader.take()
        sign = -1
    digits = read_digits(reader, MOST_DIGITS)
    decimals = []
    if reader.sees("."):
        reader.take()
        decimals = read_digits(reader, DECIMALS)
    number = 0
    for digit in digits + decimals + [0] * (DECIMALS - len(decimals)):
        number = number * 10 + digit
    return sign * number


def read_digits(reader, most):
    reader.need(is_digit(reader.ahead()))
    digits = [reader.take_digit()]
    while len(digits) < most and is_digit(reader.ahead()):
        digits.append(reader.take_digit())
    return digits
