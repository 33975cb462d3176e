"""Circles: C and S, as they show in factors and in places."""

import random
from fractions import Fraction
from math import ceil

from tests.helpers import SkyCase, place, tell, true_cosine, true_sine
from tideskies.circles import cosine, cosine_of_turn, sine

TURN = 2 ** 32
QUARTER = 2 ** 30
EIGHTH = 2 ** 29
HALF_ROOT = 759250125
H = 9860048348863269281198066682114134445731725432595044866280


def degrees(a):
    """The least NUMBER whose angle, cut, is a."""
    units = ceil(Fraction(a * 360 * 10 ** 12, TURN))
    return f"{units // 10 ** 12}.{units % 10 ** 12:012d}"


def rays(angles):
    """(C, S) of each, told by place: the one by a factor just below 1, the other by a shift of a quarter."""
    found = []
    for k in range(0, len(angles), 16):
        some = angles[k:k + 16]
        text = "angle Zero 0 0\n" if len(some) < 16 else ""
        text += "".join(f"angle A{j} {degrees(a)} 0\n" for j, a in enumerate(some))
        own = "Zero" if len(some) < 16 else "A0"
        text += "".join(f"wave W{j} {own} - {own} factor 0.999999999999 A{j} shift 90 A{j}\n" for j in range(len(some)))
        for zero, stands, factor in tell(text, *[place(j, 0, 0) for j in range(len(some))]):
            signed = stands - TURN if stands >= TURN // 2 else stands
            found.append((factor - 2 ** 30, signed))
    return found


class Rays(SkyCase):
    def assert_rays(self, rows):
        self.assertEqual(rays([a % TURN for a, ray in rows]), [ray for a, ray in rows])

    def test_at_quarters(self):
        one = 2 ** 30
        self.assert_rays([(0, (one, 0)), (QUARTER, (0, one)), (2 * QUARTER, (-one, 0)), (3 * QUARTER, (0, -one))])

    def test_beside_quarters(self):
        one = 2 ** 30
        self.assert_rays([(1, (one, 2)), (-1, (one, -2)), (2, (one, 3)), (-2, (one, -3))])
        self.assert_rays([(QUARTER + 1, (-2, one)), (QUARTER - 1, (2, one)), (QUARTER + 2, (-3, one))])
        self.assert_rays([(2 * QUARTER + 1, (-one, -2)), (2 * QUARTER - 1, (-one, 2)), (2 * QUARTER - 2, (-one, 3))])
        self.assert_rays([(3 * QUARTER + 1, (2, -one)), (3 * QUARTER - 1, (-2, -one)), (3 * QUARTER + 2, (3, -one))])

    def test_at_eighths(self):
        half = HALF_ROOT
        self.assert_rays([(EIGHTH, (half, half)), (3 * EIGHTH, (-half, half)), (5 * EIGHTH, (-half, -half)),
                          (7 * EIGHTH, (half, -half))])

    def test_beside_eighths(self):
        less, more = HALF_ROOT - 1, HALF_ROOT + 1
        self.assert_rays([(EIGHTH - 1, (more, less)), (EIGHTH + 1, (less, more))])
        self.assert_rays([(3 * EIGHTH - 1, (-less, more)), (3 * EIGHTH + 1, (-more, less))])
        self.assert_rays([(5 * EIGHTH - 1, (-more, -less)), (5 * EIGHTH + 1, (-less, -more))])
        self.assert_rays([(7 * EIGHTH - 1, (less, -more)), (7 * EIGHTH + 1, (more, -less))])

    def test_beside_a_sixth(self):
        """A sixth is no angle: its cosine, a half, lies between those of its neighbours."""
        self.assert_rays([(TURN // 6, (2 ** 29 + 1, 929887696)), (TURN // 6 + 1, (2 ** 29, 929887697))])

    def test_where_the_cosine_leaves_its_ends(self):
        """The last angle whose true cosine is within half a unit of 2^30, and the next one."""
        one, half = 2 ** 30, TURN // 2
        self.assert_rays([(20860, (one, 32767)), (20861, (one - 1, 32768)), (-20860, (one, -32767)),
                          (-20861, (one - 1, -32768)), (half + 20860, (-one, -32767)), (half - 20861, (1 - one, 32768))])

    def test_many(self):
        chance = random.Random(3)
        angles = [chance.randrange(TURN) for k in range(1500)]
        angles += [(chance.randrange(8) * EIGHTH + chance.randint(-9, 9)) % TURN for k in range(100)]
        angles += [(k * TURN // 360) for k in range(360)] + [TURN - 1, TURN - 2, TURN // 2 - 1]
        self.assertEqual(rays(angles), [(true_cosine(a), true_sine(a)) for a in angles])


def fine_cosine(m, d):
    """The cosine in 192 bits, word by word as the document tells it."""
    def t(k, x):
        return 2 ** 192 if k == 0 else (t(k - 1, x) * x // 2 ** 192) // k

    def of_quarter(r):
        if 2 * r <= d:
            return sum((-1) ** k * t(2 * k, H * r // d) for k in range(32))
        return sum((-1) ** k * t(2 * k + 1, H * (d - r) // d) for k in range(32))

    q, r = divmod(4 * m, d)
    return (of_quarter(r), -of_quarter(d - r), -of_quarter(r), of_quarter(d - r))[q]


class FineCosines(SkyCase):
    def test_in_192_bits(self):
        chance = random.Random(4)
        angles = [k * EIGHTH + j for k in range(8) for j in (-1, 0, 1) if k * EIGHTH + j >= 0]
        for a in angles + [chance.randrange(TURN) for k in range(40)]:
            fine = fine_cosine(a, TURN)
            self.assertEqual(cosine_of_turn(a), fine, a)
            size = (abs(fine) + 2 ** 161) // 2 ** 162
            self.assertEqual(cosine(a), -size if fine < 0 else size, a)

    def test_sine_is_a_quarter_behind(self):
        for a in (0, 1, EIGHTH, QUARTER - 1, QUARTER, QUARTER + 1, 12345678, TURN // 2, TURN - 1):
            self.assertEqual(sine(a), cosine((a - QUARTER) % TURN))
            self.assertEqual(sine(a), -sine(-a % TURN))
            self.assertEqual(cosine(a), cosine(-a % TURN))
            self.assertEqual(cosine(a), -cosine((a + TURN // 2) % TURN))
