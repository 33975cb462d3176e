"""B5, and the calls speed and apart."""

from fractions import Fraction
from itertools import product

from tests.helpers import MOST, Reckoned, SkyCase, apart, ask, sky, speed, tell

# In hours' degrees: 0.5, -1.5, 0, 360 (a turn in an hour), the slowest, and the fastest.
ANGLES = ("angle A 10 0.5\nangle B 20 -1.5\nangle Z 30 0\nangle H 40 360\nangle L 50 0.000000000001\n"
          "angle M 60 999.999999999999\n")


def wave_speed(terms):
    return tell(ANGLES + f"wave W {terms}\n", speed(0))[0]


class Speeds(SkyCase):
    def test_of_waves(self):
        for terms, expected in (("A", (1, 43200)), ("2 A", (1, 21600)), ("15 A", (1, 2880)), ("3 A", (1, 14400)),
                                ("7 A", (7, 43200)), ("H", (1, 60)), ("15 H", (1, 4)), ("H + A", (721, 43200)),
                                ("L", (1, 21600 * 10 ** 12)), ("5 L", (1, 4320 * 10 ** 12)),
                                ("M", (999999999999999, 21600 * 10 ** 12)), ("H - A", (719, 43200))):
            number = Fraction(*expected)
            self.assertEqual(wave_speed(terms), [0, number.numerator, number.denominator], terms)
        self.assertEqual(wave_speed("A"), [0, 1, 43200])
        self.assertEqual(wave_speed("H + 11 H"), [0, 1, 5])

    def test_whole_turns(self):
        self.assertEqual(wave_speed(" + ".join(["15 H"] * 4)), [0, 1, 1])
        self.assertEqual(wave_speed("- " + " - ".join(["15 H"] * 8)), [0, -2, 1])

    def test_below_0(self):
        self.assertEqual(wave_speed("B"), [0, -1, 14400])
        self.assertEqual(wave_speed("- A"), [0, -1, 43200])
        self.assertEqual(wave_speed("- H"), [0, -1, 60])
        self.assertEqual(wave_speed("- L"), [0, -1, 21600 * 10 ** 12])
        self.assertEqual(wave_speed("A - H"), [0, -719, 43200])
        self.assertEqual(wave_speed("- B"), [0, 1, 14400])

    def test_of_0(self):
        for terms in ("Z", "- Z", "A - A", "3 A + B", "- 15 Z + Z", "M - M"):
            self.assertEqual(wave_speed(terms), [0, 0, 1], terms)

    def test_phase_turn_factors_and_shifts_do_not_matter(self):
        self.assertEqual(wave_speed("A turn 90 factor 0.5 H shift 90 H shift 5 B"), [0, 1, 43200])
        self.assertEqual(tell("angle A 359.5 0.5\nwave W A turn 270\n", speed(0)), [[0, 1, 43200]])

    def test_of_sums(self):
        head = ANGLES + "wave V A turn 90\nwave W - H shift 3 A\nwave U B\nwave Z0 Z\n"
        for terms, expected in (("V", [0, 1, 43200]), ("- V", [0, -1, 43200]), ("12 V", [0, 1, 3600]),
                                ("W", [0, -1, 60]), ("V + W", [0, -719, 43200]), ("V - W", [0, 721, 43200]),
                                ("V - V", [0, 0, 1]), ("3 V + U", [0, 0, 1]), ("12 Z0", [0, 0, 1]),
                                ("2 V + 3 W - 4 U", [0, 2 - 3 * 720 + 12, 43200])):
            number = Fraction(expected[1], expected[2])
            told = tell(head + f"sum S {terms}\n", speed(4))
            self.assertEqual(told, [[0, number.numerator, number.denominator]], terms)

    def test_largest(self):
        eight = " + ".join(["15 M"] * 8)
        text = ANGLES + f"wave W {eight}\nwave V - {eight.replace('+', '-')}\nsum S 12 W\nsum T 12 V\nsum U 6 W - 6 V\n"
        number = Fraction(12 * 120 * 999999999999999, 21600 * 10 ** 12)
        self.assertEqual(tell(text, *[speed(k) for k in range(5)])[2:],
                         [[0, number.numerator, number.denominator], [0, -number.numerator, number.denominator],
                          [0, number.numerator, number.denominator]])

    def test_refusals(self):
        for number in (0, 1, MOST):
            self.assertEqual(ask(speed(number), sky("wave"), speed(number)), [[-3], [-6, 1, 4], [-3]])
            self.assertEqual(ask(sky(ANGLES), speed(number)), [[0], [-4]])
        self.assertEqual(tell(ANGLES + "wave W A\nsum S W\n", *[speed(k) for k in (0, 1, 2, 3, 128, MOST)]),
                         [[0, 1, 43200], [0, 1, 43200], [-4], [-4], [-4], [-4]])


# Their speeds: 1/43200, 1/60, -1/14400, 0, the slowest, the fastest; then sums.
SKY = (ANGLES + "wave a A\nwave h H turn 90 factor 0.5 A shift 90 H\nwave b B\nwave z Z\nwave l L\nwave m M\n"
       "sum aa 2 a\nsum mh m - h\nsum one a\nwave c A + L\n")


class Apart(SkyCase):
    def test_just_a_turn(self):
        for i, j, m in ((0, 3, 43200), (1, 3, 60), (2, 3, 14400), (0, 2, 10800), (0, 6, 43200), (2, 6, 8640),
                        (4, 3, 21600 * 10 ** 12), (0, 9, 21600 * 10 ** 12), (8, 9, 21600 * 10 ** 12)):
            told = tell(SKY, apart(i, j, m), apart(j, i, m), apart(i, j, m - 1), apart(j, i, m - 1), apart(i, j, m + 1),
                        apart(j, i, m + 1))
            self.assertEqual(told, [[1], [1], [0], [0], [1], [1]], (i, j, m))

    def test_a_little_less_and_more_than_a_turn(self):
        head = "angle Z 0 0\nangle A 0 360\nangle B 0 359.999999999999\nangle C 0 360.000000000001\nwave z Z\n"
        text = head + "wave a A\nwave b B\nwave c C\nwave d - B\nwave e - C\nwave f - A\n"
        calls = [apart(0, j, 60) for j in range(1, 7)]
        self.assertEqual(tell(text, *calls), [[1], [0], [1], [0], [1], [1]])
        calls = [apart(j, 0, 60) for j in range(1, 7)]
        self.assertEqual(tell(text, *calls), [[1], [0], [1], [0], [1], [1]])
        self.assertEqual(tell(text, apart(1, 6, 29), apart(1, 6, 30), apart(2, 4, 30), apart(3, 5, 30)),
                         [[0], [1], [0], [1]])

    def test_the_same(self):
        calls = [apart(i, i, m) for i in range(10) for m in (0, 1, 43200, MOST)]
        self.assertEqual(tell(SKY, *calls), [[0]] * 40)
        self.assertEqual(tell(SKY, apart(0, 8, MOST), apart(8, 0, MOST)), [[0], [0]])

    def test_phases_do_not_matter(self):
        text = "angle A 0 1\nangle B 180 1\nwave a A\nwave b B turn 90\nwave c A - B + A shift 90 A\n"
        self.assertEqual(tell(text, *[apart(i, j, MOST) for i in range(3) for j in range(3)]), [[0]] * 9)

    def test_m_of_0_and_the_most(self):
        for i, j in product(range(10), repeat=2):
            told = tell(SKY, apart(i, j, 0), apart(i, j, MOST))
            self.assertEqual(told, [[0], [0 if i == j or (i, j) in ((0, 8), (8, 0)) else 1]], (i, j))

    def test_both_ways_and_with_more(self):
        reckoned = Reckoned(SKY)
        minutes = (0, 1, 2, 20, 21, 22, 59, 60, 61, 1000, 8640, 10799, 10800, 10801, 43199, 43200, 10 ** 12, 10 ** 16, MOST)
        for i, j in product(range(10), repeat=2):
            told = tell(SKY, *[apart(i, j, m) for m in minutes])
            self.assertEqual(told, tell(SKY, *[apart(j, i, m) for m in minutes]))
            self.assertEqual(told, sorted(told))
            self.assertEqual(told, [reckoned.apart(i, j, m) for m in minutes])

    def test_refusals(self):
        for i, j in ((0, 10), (10, 0), (10, 10), (0, MOST), (MOST, 0), (MOST, MOST)):
            for m in (0, 1, MOST):
                self.assertEqual(ask(apart(i, j, m), sky(SKY), apart(i, j, m), apart(0, 1, 61)), [[-3], [0], [-4], [1]])
        self.assertEqual(ask(apart(0, 0, 0)), [[-3]])
        self.assertEqual(tell(ANGLES, apart(0, 0, 0)), [[-4]])
        self.assertEqual(tell("", apart(0, 0, 0)), [[-4]])
