"""Prints the lines of a sky."""

from tideskies.lines import ANGLE, DECIMALS, ONE, WAVE
from tideskies.signs import codes


def printed_lines(lines):
    printed = []
    for line in lines:
        printed.extend(codes(line.word + " "))
        printed.extend(line.name)
        printed.extend(codes(" "))
        printed.extend(printed_rest(line))
        printed.extend(codes("\n"))
    return printed


# What stands behind a line's name and a blank.
def printed_rest(line):
    if line.word == ANGLE:
        return codes(number_text(line.phase) + " " + number_text(line.rate))
    printed = printed_terms(line.terms)
    if line.word == WAVE:
        if line.turn > 0:
            printed.extend(codes(" turn " + str(line.turn)))
        printed.extend(printed_swings(" factor ", line.factors))
        printed.extend(printed_swings(" shift ", line.shifts))
    return printed


def printed_swings(word, swings):
    printed = []
    for swing in swings:
        printed.extend(codes(word + number_text(swing.number) + " "))
        printed.extend(printed_terms(swing.terms))
    return printed


def printed_terms(terms):
    printed = []
    for k, term in enumerate(terms):
        printed.extend(codes(sign_text(term.sign, k == 0)))
        if term.count > 1:
            printed.extend(codes(str(term.count) + " "))
        printed.extend(term.name)
    return printed


def sign_text(sign, is_first):
    if is_first:
        return "- " if sign < 0 else ""
    return " - " if sign < 0 else " + "


def number_text(number):
    minus = "-" if number < 0 else ""
    whole = abs(number) // ONE
    decimals = str(abs(number) % ONE).zfill(DECIMALS).rstrip("0")
    point = "." if decimals != "" else ""
    return f"{minus}{whole}{point}{decimals}"
