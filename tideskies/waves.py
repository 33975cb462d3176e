"""Waves and sums as they go with time, made from the lines of a right sky.

Turns are counted in parts that are so fine that every angle stands at a whole number of them at
every minute: a rate's last decimal place, which is told by the hour, is one part by the minute.
"""

from tideskies.lines import ANGLE, SUM, WAVE

# How many parts a turn, a degree and a degree's last decimal place have.
TURN = 21600000000000000
DEGREE = 60000000000000
UNIT = 60


# Stands at so many parts at minute 0, and grows by so many in a minute.
class Course:
    def __init__(self, origin, growth):
        self.origin = origin
        self.growth = growth

    def at(self, minute):
        return self.origin + self.growth * minute


# A factor or a shift: its NUMBER, and how its SUM goes.
class Sway:
    def __init__(self, number, course):
        self.number = number
        self.course = course


# A wave within a sum, with its count there, which is below 0 behind a minus sign.
class Member:
    def __init__(self, count, factors, shifts):
        self.count = count
        self.factors = factors
        self.shifts = shifts


# A wave is held as the sum of itself alone.
class Wave:
    def __init__(self, name, argument, members):
        self.name = name
        self.argument = argument
        self.members = members


# One dict holds the courses of all lines, as no two lines have one name.
def waves_of(lines):
    courses = {}
    waves = {}
    for line in lines:
        course = course_of_line(line, courses)
        courses[line.name] = course
        if line.word == WAVE:
            waves[line.name] = Wave(line.name, course, [member_of_wave(line, courses)])
        if line.word == SUM:
            waves[line.name] = Wave(line.name, course, members_of_sum(line, waves))
    return list(waves.values())


def course_of_line(line, courses):
    if line.word == ANGLE:
        return Course(UNIT * line.phase, line.rate)
    course = course_of_terms(line.terms, courses)
    if line.word == WAVE:
        return Course(course.origin + DEGREE * line.turn, course.growth)
    return course


def course_of_terms(terms, courses):
    origin = sum([signed_count(term) * courses[term.name].origin for term in terms])
    growth = sum([signed_count(term) * courses[term.name].growth for term in terms])
    return Course(origin, growth)


def signed_count(term):
    return term.sign * term.count


def member_of_wave(line, courses):
    return Member(1, sways_of(line.factors, courses), sways_of(line.shifts, courses))


def sways_of(swings, courses):
    return [Sway(swing.number, course_of_terms(swing.terms, courses)) for swing in swings]


def members_of_sum(line, waves):
    members = []
    for term in line.terms:
        wave = waves[term.name].members[0]
        members.append(Member(signed_count(term), wave.factors, wave.shifts))
    return members
