"""Finds the first fault of lines whose grammar is right."""

from tideskies.lines import ANGLE, ONE, SUM, WAVE
from tideskies.refusals import NAME_MISSING, NAME_TAKEN, TOO_LARGE, TOO_MANY, AtFault

MOST_ANGLES = 16
MOST_WAVES = 128
MOST_COUNTS = 12


# A line's name stands before the names of its SUMs, and these come in the text's order: so the
# first fault that is met is the first by place.
def judge(lines):
    words = {}
    angles = 0
    waves = 0
    for line in lines:
        if line.word == ANGLE:
            angles = angles + 1
        else:
            waves = waves + 1
        if line.name in words:
            raise AtFault(NAME_TAKEN, line.place)
        if angles > MOST_ANGLES or waves > MOST_WAVES:
            raise AtFault(TOO_MANY, line.place)
        if is_too_large(line):
            raise AtFault(TOO_LARGE, line.place)
        judge_terms(line, words)
        words[line.name] = line.word


def is_too_large(line):
    if line.word == WAVE:
        return sum([abs(factor.number) for factor in line.factors]) >= ONE
    if line.word == SUM:
        return sum([term.count for term in line.terms]) > MOST_COUNTS
    return False


# words: by which word each earlier line's name is told.
def judge_terms(line, words):
    needed = WAVE if line.word == SUM else ANGLE
    for term in terms_of(line):
        if words.get(term.name) != needed:
            raise AtFault(NAME_MISSING, term.place)


def terms_of(line):
    if line.word == ANGLE:
        return []
    terms = list(line.terms)
    if line.word == WAVE:
        for swing in line.factors + line.shifts:
            terms.extend(swing.terms)
    return terms
