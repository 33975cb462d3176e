"""What the tests share: making calls, reading answers, and a second judge of texts to compare with."""

import re
import unittest

from tideskies.skies import answers

PRINT = [1]
SIZE = [2]


def codes(text):
    return list(text.encode("latin-1"))


def sky(text):
    return [0, len(text)] + codes(text)


def name(number):
    return [3, number]


def find(text):
    return [4, len(text)] + codes(text)


def ask(*calls):
    """The answers to these calls on one new object, each a list of its own."""
    flat = answers([number for call in calls for number in call])
    split = []
    while flat:
        split.append(flat[1:1 + flat[0]])
        assert len(split[-1]) == flat[0]
        flat = flat[1 + flat[0]:]
    return split


def bytes_answer(text):
    return [0, len(text)] + codes(text)


def printed(text):
    answer = ask(sky(text), PRINT)[1]
    assert answer[:2] == [0, len(answer) - 2]
    return bytes(answer[2:]).decode("latin-1")


class SkyCase(unittest.TestCase):
    def assert_right(self, text):
        self.assertEqual(ask(sky(text)), [[0]], text)

    def assert_fault(self, kind, marked):
        """The mark | stands before the byte at fault, and isn't part of the text."""
        self.assertEqual(marked.count("|"), 1, marked)
        place = marked.index("|")
        self.assertEqual(ask(sky(marked.replace("|", ""))), [[-6, kind, place]], marked)

    def assert_printed(self, text, expected):
        self.assertEqual(printed(text), expected)


LETTERS = "ABCDEFGHIJKLMNOPQRSTUVWXYZabcdefghijklmnopqrstuvwxyz"
DIGITS = "0123456789"


class Machine:
    """A nondeterministic machine made from the document's grammar, part by part.

    A part is a function from a state to the state behind it. Each state can still reach the
    end, so a text goes on as long as the machine is in any state at all.
    """

    def __init__(self):
        self.silent = []
        self.moves = []
        self.start = self.new()
        line_start = self.lines()(self.start)
        self.silent[line_start].append(self.start)

    def new(self):
        self.silent.append([])
        self.moves.append({})
        return len(self.silent) - 1

    def one_of(self, signs):
        def part(state):
            after = self.new()
            for sign in signs:
                self.moves[state].setdefault(ord(sign), []).append(after)
            return after
        return part

    def word(self, text):
        return self.row(*[self.one_of(sign) for sign in text])

    def row(self, *parts):
        def part(state):
            for each in parts:
                fresh = self.new()
                self.silent[state].append(fresh)
                state = each(fresh)
            return state
        return part

    def either(self, *parts):
        def part(state):
            after = self.new()
            for each in parts:
                fresh = self.new()
                self.silent[state].append(fresh)
                self.silent[each(fresh)].append(after)
            return after
        return part

    def times(self, least, most, each):
        def part(state):
            after = self.new()
            for done in range(most + 1):
                if done >= least:
                    self.silent[state].append(after)
                if done < most:
                    fresh = self.new()
                    self.silent[state].append(fresh)
                    state = each(fresh)
            return after
        return part

    def lines(self):
        number = self.row(self.times(0, 1, self.word("-")), self.times(1, 3, self.one_of(DIGITS)),
                          self.times(0, 1, self.row(self.word("."), self.times(1, 12, self.one_of(DIGITS)))))
        name_part = self.row(self.one_of(LETTERS), self.times(0, 6, self.one_of(LETTERS + DIGITS)))
        count = self.either(*[self.word(str(k)) for k in range(1, 16)])
        term = self.row(self.times(0, 1, self.row(count, self.word(" "))), name_part)
        terms = self.row(self.times(0, 1, self.word("- ")), term,
                         self.times(0, 7, self.row(self.either(self.word(" + "), self.word(" - ")), term)))
        turn = self.row(self.word(" turn "), self.either(self.word("90"), self.word("180"), self.word("270")))
        factor = self.row(self.word(" factor "), number, self.word(" "), terms)
        shift = self.row(self.word(" shift "), number, self.word(" "), terms)
        line = self.either(
            self.row(self.word("angle "), name_part, self.word(" "), number, self.word(" "), number),
            self.row(self.word("wave "), name_part, self.word(" "), terms, self.times(0, 1, turn),
                     self.times(0, 8, factor), self.times(0, 8, shift)),
            self.row(self.word("sum "), name_part, self.word(" "), terms))
        return self.row(line, self.word("\n"))

    def with_silent(self, states):
        seen = dict.fromkeys(states)
        waiting = list(seen)
        while waiting:
            for after in self.silent[waiting.pop()]:
                if after not in seen:
                    seen[after] = None
                    waiting.append(after)
        return list(seen)

    def fault_place(self, text):
        """None if the grammar has this text."""
        states = self.with_silent([self.start])
        for place, byte in enumerate(codes(text)):
            states = self.with_silent([after for state in states for after in self.moves[state].get(byte, [])])
            if not states:
                return place
        return None if self.start in states else len(text)


def later_fault(text):
    """Of all faults of kinds 2 to 5 the first, as (place, kind); None if there is none."""
    found = []
    lines = [match for match in re.finditer(r"(angle|wave|sum) (\w+) ([^\n]*)\n", text)]
    for k, line in enumerate(lines):
        word, own, rest = line.groups()
        earlier = [(each.group(1), each.group(2)) for each in lines[:k]]
        place = line.start(2)
        if own in [each[1] for each in earlier]:
            found.append((place, 2))
        if [each[0] == "angle" for each in earlier].count(word == "angle") >= (16 if word == "angle" else 128):
            found.append((place, 4))
        if word == "angle":
            continue
        if word == "wave":
            digits = [each.replace("-", "") for each in re.findall(r" factor (-?[0-9.]+) ", rest)]
            large = sum(int(each.partition(".")[0] + each.partition(".")[2].ljust(12, "0")) for each in digits)
            if large >= 10 ** 12:
                found.append((place, 5))
        elif sum(int(each or 1) for each in re.findall(r"(?:^|[+-] )(?:(\d+) )?[A-Za-z]", rest)) > 12:
            found.append((place, 5))
        masked = re.sub(r" (turn|factor|shift) -?[0-9.]+(?= |$)", lambda m: "#" * len(m.group()), rest)
        for term in re.finditer(r"[A-Za-z]\w*", masked):
            if ("angle" if word == "wave" else "wave", term.group()) not in earlier:
                found.append((line.start(3) + term.start(), 3))
    return min(found, default=None)
