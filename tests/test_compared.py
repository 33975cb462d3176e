"""B1: many texts, made from right ones by small changes, judged a second way and compared.

The changes are drawn from a row of numbers that is the same at every run.
"""

import random

from tests.helpers import PRINT, SIZE, Machine, SkyCase, ask, later_fault, name, printed, sky

WORDS = ("angle", "wave", "sum", "turn", "factor", "shift", "A", "B", "W", "S", "Abcdefg", "A1", "x9")
SIGNS = "\n\n   ++--..0123456789015ABWSaftxz?"
PIECES = ("turn 90", "factor 0.5 A", "shift 1 B", "+ A", "- 2 B", "angle A 0 1\n", "wave W A\n", "sum S W\n", " ", "\n")


class Maker:
    def __init__(self, seed):
        self.chance = random.Random(seed)

    def one_of(self, row):
        return self.chance.choice(row)

    def number(self):
        whole = "".join(self.one_of("0019") for _ in range(self.chance.randint(1, 3)))
        text = self.one_of(("", "", "-")) + whole
        decimals = self.chance.choice((0, 0, 1, 2, 12))
        return text + ("." + "".join(self.one_of("00159") for _ in range(decimals)) if decimals else "")

    def terms(self, names):
        many = self.one_of((1, 1, 2, 2, 3, 8))
        text = self.one_of(("", "", "- "))
        for k in range(many):
            text += self.one_of((" + ", " - ")) if k else ""
            text += self.one_of(("", "", "1 ", "2 ", "15 ") if many < 8 else ("", "1 ", "2 ")) + self.one_of(names)
        return text

    def swings(self, word, names):
        many = self.one_of((0, 0, 1, 2, 7, 8))
        text = ""
        for _ in range(many):
            number = self.one_of(("0", "0.1", "-0.125", "0.12499", "000.5")) if word == "factor" else self.number()
            text += f" {word} {number} {self.terms(names)}"
        return text

    def text(self):
        """Right by its grammar; mostly right in all else, too."""
        angles, waves, taken, text = [], [], [], ""
        for _ in range(self.one_of((1, 3, 6, 10, 20))):
            own = self.one_of(WORDS + tuple(f"n{k}" for k in range(40)))
            if own in taken and self.chance.random() < 0.7:
                continue
            taken.append(own)
            word = self.one_of(("angle", "wave", "sum"))
            if not angles or self.chance.random() < 0.1:
                word = "angle"
            elif word == "sum" and not waves:
                word = "wave"
            if word == "angle":
                text += f"angle {own} {self.number()} {self.number()}\n"
                angles.append(own)
            elif word == "wave":
                names = angles if self.chance.random() < 0.95 else WORDS
                text += f"wave {own} {self.terms(names)}" + self.one_of(("", " turn 90", " turn 180", " turn 270"))
                text += self.swings("factor", names) + self.swings("shift", names) + "\n"
                waves.append(own)
            else:
                text += f"sum {own} {self.terms(waves if self.chance.random() < 0.95 else WORDS)}\n"
        return text

    def changed(self, text):
        place = self.chance.randint(0, len(text))
        change = self.chance.randint(0, 5)
        if change == 0:
            return text[:place]
        if change == 1:
            return text[:place] + self.one_of(SIGNS) + text[place:]
        if change == 2:
            return text[:place] + self.one_of(SIGNS) + text[place + 1:]
        if change == 3:
            return text[:place] + text[place + 1:]
        if change == 4:
            words = text.split(" ")
            words.insert(self.chance.randint(0, len(words)), self.one_of(PIECES + WORDS))
            return " ".join(words)
        other = self.chance.randint(0, len(text))
        return text[:place] + text[other:]


class Compared(SkyCase):
    def setUp(self):
        self.machine = Machine()
        self.told = {}

    def compare(self, text):
        place = self.machine.fault_place(text)
        if place is not None:
            expected = [-6, 1, place]
        else:
            later = later_fault(text)
            expected = [0] if later is None else [-6, later[1], later[0]]
        self.assertEqual(ask(sky(text))[0], expected, text)
        kind = expected[1] if expected != [0] else 0
        self.told[kind] = self.told.get(kind, 0) + 1
        return expected == [0]

    def check_printed(self, text):
        once = printed(text)
        self.assertTrue(self.compare(once))
        self.assertEqual(printed(once), once)
        asked = [SIZE] + [name(k) for k in range(8)]
        self.assertEqual(ask(sky(text), *asked), ask(sky(once), *asked))
        self.assertEqual(ask(sky(text), PRINT), ask(sky(once), PRINT))

    def test_texts_and_their_changes(self):
        maker = Maker(1)
        for _ in range(400):
            text = maker.text()
            if self.compare(text):
                self.check_printed(text)
            for _ in range(6):
                self.compare(maker.changed(text))
        for kind in (0, 1, 2, 3, 5):
            self.assertGreater(self.told.get(kind, 0), 10, self.told)

    def test_faults_of_full_skies(self):
        maker = Maker(2)
        for _ in range(10):
            lines = [f"angle a{k} 0 0\n" for k in range(maker.chance.randint(15, 18))]
            lines += [f"wave w{k} a1\n" for k in range(maker.chance.randint(126, 130))]
            self.compare("".join(lines))
            maker.chance.shuffle(lines)
            self.compare("angle a1 0 0\n".join(["", "".join(lines).replace("angle a1 0 0\n", "")]))
        self.assertGreater(self.told.get(4, 0), 5, self.told)
