"""What the tests share: making calls, reading answers, texts drawn by chance, and to compare with,
a second judge of texts and a reckoning of where waves stand, both apart from the program."""

import random
import re
import unittest
from decimal import Decimal, localcontext
from fractions import Fraction
from functools import lru_cache
from math import floor

from tideskies.skies import answers

PRINT = [1]
SIZE = [2]

FIRST_MINUTE = -2 ** 31
LAST_MINUTE = 2 ** 31 - 1
MOST = 10 ** 18


def codes(text):
    return list(text.encode("latin-1"))


def sky(text):
    return [0, len(text)] + codes(text)


def name(number):
    return [3, number]


def find(text):
    return [4, len(text)] + codes(text)


def speed(number):
    return [5, number]


def place(number, t, b):
    return [6, number, t, b]


def row(number, t, b, m):
    return [7, number, t, b, m]


def apart(i, j, m):
    return [8, i, j, m]


def ask(*calls):
    """The answers to these calls on one new object, each a list of its own."""
    flat = answers([number for call in calls for number in call])
    split = []
    while flat:
        split.append(flat[1:1 + flat[0]])
        assert len(split[-1]) == flat[0]
        flat = flat[1 + flat[0]:]
    return split


def tell(text, *calls):
    """The answers to these calls on this sky, which has to be right."""
    told = ask(sky(text), *calls)
    assert told[0] == [0], (text, told[0])
    return told[1:]


def bytes_answer(text):
    return [0, len(text)] + codes(text)


def printed(text):
    answer = ask(sky(text), PRINT)[1]
    assert answer[:2] == [0, len(answer) - 2]
    return bytes(answer[2:]).decode("latin-1")


class SkyCase(unittest.TestCase):
    def assert_right(self, text):
        self.assertEqual(ask(sky(text)), [[0]], text)

    def assert_fault(self, kind, marked):
        """The mark | stands before the byte at fault, and isn't part of the text."""
        self.assertEqual(marked.count("|"), 1, marked)
        place = marked.index("|")
        self.assertEqual(ask(sky(marked.replace("|", ""))), [[-6, kind, place]], marked)

    def assert_printed(self, text, expected):
        self.assertEqual(printed(text), expected)


LETTERS = "ABCDEFGHIJKLMNOPQRSTUVWXYZabcdefghijklmnopqrstuvwxyz"
DIGITS = "0123456789"


class Machine:
    """A nondeterministic machine made from the document's grammar, part by part.

    A part is a function from a state to the state behind it. Each state can still reach the
    end, so a text goes on as long as the machine is in any state at all.
    """

    def __init__(self):
        self.silent = []
        self.moves = []
        self.start = self.new()
        line_start = self.lines()(self.start)
        self.silent[line_start].append(self.start)

    def new(self):
        self.silent.append([])
        self.moves.append({})
        return len(self.silent) - 1

    def one_of(self, signs):
        def part(state):
            after = self.new()
            for sign in signs:
                self.moves[state].setdefault(ord(sign), []).append(after)
            return after
        return part

    def word(self, text):
        return self.row(*[self.one_of(sign) for sign in text])

    def row(self, *parts):
        def part(state):
            for each in parts:
                fresh = self.new()
                self.silent[state].append(fresh)
                state = each(fresh)
            return state
        return part

    def either(self, *parts):
        def part(state):
            after = self.new()
            for each in parts:
                fresh = self.new()
                self.silent[state].append(fresh)
                self.silent[each(fresh)].append(after)
            return after
        return part

    def times(self, least, most, each):
        def part(state):
            after = self.new()
            for done in range(most + 1):
                if done >= least:
                    self.silent[state].append(after)
                if done < most:
                    fresh = self.new()
                    self.silent[state].append(fresh)
                    state = each(fresh)
            return after
        return part

    def lines(self):
        number = self.row(self.times(0, 1, self.word("-")), self.times(1, 3, self.one_of(DIGITS)),
                          self.times(0, 1, self.row(self.word("."), self.times(1, 12, self.one_of(DIGITS)))))
        name_part = self.row(self.one_of(LETTERS), self.times(0, 6, self.one_of(LETTERS + DIGITS)))
        count = self.either(*[self.word(str(k)) for k in range(1, 16)])
        term = self.row(self.times(0, 1, self.row(count, self.word(" "))), name_part)
        terms = self.row(self.times(0, 1, self.word("- ")), term,
                         self.times(0, 7, self.row(self.either(self.word(" + "), self.word(" - ")), term)))
        turn = self.row(self.word(" turn "), self.either(self.word("90"), self.word("180"), self.word("270")))
        factor = self.row(self.word(" factor "), number, self.word(" "), terms)
        shift = self.row(self.word(" shift "), number, self.word(" "), terms)
        line = self.either(
            self.row(self.word("angle "), name_part, self.word(" "), number, self.word(" "), number),
            self.row(self.word("wave "), name_part, self.word(" "), terms, self.times(0, 1, turn),
                     self.times(0, 8, factor), self.times(0, 8, shift)),
            self.row(self.word("sum "), name_part, self.word(" "), terms))
        return self.row(line, self.word("\n"))

    def with_silent(self, states):
        seen = dict.fromkeys(states)
        waiting = list(seen)
        while waiting:
            for after in self.silent[waiting.pop()]:
                if after not in seen:
                    seen[after] = None
                    waiting.append(after)
        return list(seen)

    def fault_place(self, text):
        """None if the grammar has this text."""
        states = self.with_silent([self.start])
        for place, byte in enumerate(codes(text)):
            states = self.with_silent([after for state in states for after in self.moves[state].get(byte, [])])
            if not states:
                return place
        return None if self.start in states else len(text)


def later_fault(text):
    """Of all faults of kinds 2 to 5 the first, as (place, kind); None if there is none."""
    found = []
    lines = [match for match in re.finditer(r"(angle|wave|sum) (\w+) ([^\n]*)\n", text)]
    for k, line in enumerate(lines):
        word, own, rest = line.groups()
        earlier = [(each.group(1), each.group(2)) for each in lines[:k]]
        place = line.start(2)
        if own in [each[1] for each in earlier]:
            found.append((place, 2))
        if [each[0] == "angle" for each in earlier].count(word == "angle") >= (16 if word == "angle" else 128):
            found.append((place, 4))
        if word == "angle":
            continue
        if word == "wave":
            digits = [each.replace("-", "") for each in re.findall(r" factor (-?[0-9.]+) ", rest)]
            large = sum(int(each.partition(".")[0] + each.partition(".")[2].ljust(12, "0")) for each in digits)
            if large >= 10 ** 12:
                found.append((place, 5))
        elif sum(int(each or 1) for each in re.findall(r"(?:^|[+-] )(?:(\d+) )?[A-Za-z]", rest)) > 12:
            found.append((place, 5))
        masked = re.sub(r" (turn|factor|shift) -?[0-9.]+(?= |$)", lambda m: "#" * len(m.group()), rest)
        for term in re.finditer(r"[A-Za-z]\w*", masked):
            if ("angle" if word == "wave" else "wave", term.group()) not in earlier:
                found.append((line.start(3) + term.start(), 3))
    return min(found, default=None)


@lru_cache(None)
def pi():
    """To some 100 places, by Machin's sum of two arcs."""
    def arc(d):
        total, power, k = 0, 10 ** 120 // d, 0
        while power:
            total += (-power if k % 2 else power) // (2 * k + 1)
            power //= d * d
            k += 1
        return total
    return Decimal(4 * (4 * arc(5) - arc(239))).scaleb(-120)


def nearest(fraction):
    """A tie goes to the greater."""
    return floor(fraction + Fraction(1, 2))


@lru_cache(None)
def true_cosine(a):
    """The whole number nearest to 2^30 times the cosine, reckoned to some 80 places."""
    with localcontext() as context:
        context.prec = 100
        x = 2 * pi() * a / 2 ** 32
        total, term, k = Decimal(0), Decimal(1), 0
        while abs(term) > Decimal(10) ** -90:
            total += term
            term = -term * x * x / ((k + 1) * (k + 2))
            k += 2
        return floor(total * 2 ** 30 + Decimal("0.5"))


def true_sine(a):
    return true_cosine((a - 2 ** 30) % 2 ** 32)


def cut(turns):
    return floor(turns * 2 ** 32) % 2 ** 32


TERMS = r"(?:- )?(?:\d+ )?[A-Za-z]\w*(?: [+-] (?:\d+ )?[A-Za-z]\w*)*"


def read_terms(text):
    """Signed counts and names."""
    found = re.findall(r"(?:([+-]) )?(?:(\d+) )?([A-Za-z]\w*)", text)
    return [((-1 if sign == "-" else 1) * int(count or 1), own) for sign, count, own in found]


def read_swings(word, text):
    return [(Fraction(number), read_terms(terms)) for number, terms in re.findall(rf" {word} (-?[0-9.]+) ({TERMS})", text)]


class Reckoned:
    """What a right sky answers to speed, place, row and apart, by exact fractions of a turn."""

    def __init__(self, text):
        self.angles = {}
        self.own_waves = {}
        self.waves = []
        for line in text.splitlines():
            word, own, rest = line.split(" ", 2)
            if word == "angle":
                phase, rate = rest.split(" ")
                self.angles[own] = (Fraction(phase) / 360, Fraction(rate) / 360 / 60)
            elif word == "wave":
                parts = re.fullmatch(rf"({TERMS})(?: turn (\d+))?((?: factor \S+ {TERMS})*)((?: shift \S+ {TERMS})*)", rest)
                self.own_waves[own] = (read_terms(parts[1]), Fraction(int(parts[2] or 0), 360),
                                       read_swings("factor", parts[3]), read_swings("shift", parts[4]))
                self.waves.append([(1, own)])
            else:
                self.waves.append(read_terms(rest))

    def turns(self, terms, t):
        return sum(k * (self.angles[own][0] + self.angles[own][1] * t) for k, own in terms)

    def argument(self, i, t):
        return sum(k * (self.turns(self.own_waves[own][0], t) + self.own_waves[own][1]) for k, own in self.waves[i])

    def shift(self, i, b):
        total = Fraction(0)
        for k, own in self.waves[i]:
            for number, terms in self.own_waves[own][3]:
                total += k * number / 360 * Fraction(true_sine(cut(self.turns(terms, b))), 2 ** 30)
        return total

    def factor(self, i, b):
        product = Fraction(1)
        for k, own in self.waves[i]:
            swings = sum(number * true_cosine(cut(self.turns(terms, b))) for number, terms in self.own_waves[own][2])
            product *= Fraction(nearest(2 ** 30 + swings), 2 ** 30) ** abs(k)
        return nearest(2 ** 30 * product)

    def exact(self, i, t, b):
        return self.argument(i, t) + self.shift(i, b)

    def grown(self, i):
        return Fraction(self.argument(i, 1) - self.argument(i, 0))

    def speed(self, i):
        return [0, self.grown(i).numerator, self.grown(i).denominator]

    def place(self, i, t, b):
        return [0, cut(self.exact(i, t, b)), self.factor(i, b)]

    def row(self, i, t, b, m):
        shift = self.shift(i, b)
        return [0, m] + [cut(self.argument(i, t + k) + shift) for k in range(m)]

    def apart(self, i, j, m):
        return [1 if abs(self.grown(i) - self.grown(j)) * m >= 1 else 0]


WORDS = ("angle", "wave", "sum", "turn", "factor", "shift", "A", "B", "W", "S", "Abcdefg", "A1", "x9")
SIGNS = "\n\n   ++--..0123456789015ABWSaftxz?"
PIECES = ("turn 90", "factor 0.5 A", "shift 1 B", "+ A", "- 2 B", "angle A 0 1\n", "wave W A\n", "sum S W\n", " ", "\n")


class Maker:
    """Draws texts and changes of them, the same ones at every run."""

    def __init__(self, seed):
        self.chance = random.Random(seed)

    def one_of(self, row):
        return self.chance.choice(row)

    def number(self):
        whole = "".join(self.one_of("0019") for _ in range(self.chance.randint(1, 3)))
        text = self.one_of(("", "", "-")) + whole
        decimals = self.chance.choice((0, 0, 1, 2, 12))
        return text + ("." + "".join(self.one_of("00159") for _ in range(decimals)) if decimals else "")

    def terms(self, names):
        many = self.one_of((1, 1, 2, 2, 3, 8))
        text = self.one_of(("", "", "- "))
        for k in range(many):
            text += self.one_of((" + ", " - ")) if k else ""
            text += self.one_of(("", "", "1 ", "2 ", "15 ") if many < 8 else ("", "1 ", "2 ")) + self.one_of(names)
        return text

    def swings(self, word, names):
        many = self.one_of((0, 0, 1, 2, 7, 8))
        text = ""
        for _ in range(many):
            number = self.one_of(("0", "0.1", "-0.125", "0.12499", "000.5")) if word == "factor" else self.number()
            text += f" {word} {number} {self.terms(names)}"
        return text

    def text(self):
        """Right by its grammar; mostly right in all else, too."""
        angles, waves, taken, text = [], [], [], ""
        for _ in range(self.one_of((1, 3, 6, 10, 20))):
            own = self.one_of(WORDS + tuple(f"n{k}" for k in range(40)))
            if own in taken and self.chance.random() < 0.7:
                continue
            taken.append(own)
            word = self.one_of(("angle", "wave", "sum"))
            if not angles or self.chance.random() < 0.1:
                word = "angle"
            elif word == "sum" and not waves:
                word = "wave"
            if word == "angle":
                text += f"angle {own} {self.number()} {self.number()}\n"
                angles.append(own)
            elif word == "wave":
                names = angles if self.chance.random() < 0.95 else WORDS
                text += f"wave {own} {self.terms(names)}" + self.one_of(("", " turn 90", " turn 180", " turn 270"))
                text += self.swings("factor", names) + self.swings("shift", names) + "\n"
                waves.append(own)
            else:
                text += f"sum {own} {self.terms(waves if self.chance.random() < 0.95 else WORDS)}\n"
        return text

    def changed(self, text):
        place = self.chance.randint(0, len(text))
        change = self.chance.randint(0, 5)
        if change == 0:
            return text[:place]
        if change == 1:
            return text[:place] + self.one_of(SIGNS) + text[place:]
        if change == 2:
            return text[:place] + self.one_of(SIGNS) + text[place + 1:]
        if change == 3:
            return text[:place] + text[place + 1:]
        if change == 4:
            words = text.split(" ")
            words.insert(self.chance.randint(0, len(words)), self.one_of(PIECES + WORDS))
            return " ".join(words)
        other = self.chance.randint(0, len(text))
        return text[:place] + text[other:]
