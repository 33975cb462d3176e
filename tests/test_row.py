"""B3: the call row."""

from tests.helpers import FIRST_MINUTE, LAST_MINUTE, MOST, Reckoned, SkyCase, ask, place, row, sky, speed, tell

TURN = 2 ** 32
TEXT = ("angle A 12.34567 -0.987654321\nangle B 200.5 28.98410424\nangle H 0 360\n"
        "wave V H\nwave W 3 A - 2 B turn 90 factor 0.2 A shift 12.5 A shift -3 B\nsum S W - 4 V\nwave Z H - H\n")


def single_places(number, t, b, m):
    found = []
    for k in range(0, m, 128):
        calls = [place(number, t + j, b) for j in range(k, min(k + 128, m))]
        found += [each[1] for each in tell(TEXT, *calls)]
    return found


class Rows(SkyCase):
    def test_small(self):
        self.assertEqual(tell(TEXT, row(0, 0, 0, 0), row(0, 0, 0, 1), row(0, 15, 0, 1), row(0, 15, 9, 3)),
                         [[0, 0], [0, 1, 0], [0, 1, TURN // 4],
                          [0, 3, TURN // 4, 16 * TURN // 60, 17 * TURN // 60]])
        self.assertEqual(tell(TEXT, row(0, -1, 0, 3)), [[0, 3, 59 * TURN // 60, 0, TURN // 60]])
        self.assertEqual(tell(TEXT, row(3, 0, 0, 256)), [[0, 256] + [0] * 256])

    def test_is_its_single_places(self):
        for number in range(4):
            for t, b in ((0, 0), (-128, 77), (FIRST_MINUTE, LAST_MINUTE), (LAST_MINUTE - 255, FIRST_MINUTE), (1234567, -5)):
                for m in (0, 1, 2, 255, 256):
                    told = tell(TEXT, row(number, t, b, m))[0]
                    self.assertEqual(told, [0, m] + single_places(number, t, b, m), (number, t, b, m))

    def test_against_a_reckoning(self):
        reckoned = Reckoned(TEXT)
        for number in range(4):
            for t, b, m in ((0, 0, 100), (-3000, 4000, 256), (FIRST_MINUTE, FIRST_MINUTE, 256), (LAST_MINUTE - 9, 0, 10)):
                self.assertEqual(tell(TEXT, row(number, t, b, m)), [reckoned.row(number, t, b, m)])

    def test_goes_on_by_its_speed(self):
        for number in range(4):
            told = tell(TEXT, speed(number), row(number, -100, 50, 256))
            above, below = told[0][1:]
            step = above * TURN // below
            for one, other in zip(told[1][2:], told[1][3:]):
                self.assertIn((other - one - step) % TURN, (0, 1))

    def test_b_counts(self):
        self.assertNotEqual(*tell(TEXT, row(1, 0, 0, 5), row(1, 0, 100, 5)))


class Refusals(SkyCase):
    def test_m(self):
        for wrong in (257, 258, 2 ** 32, MOST):
            for t in (0, FIRST_MINUTE, LAST_MINUTE):
                self.assertEqual(tell(TEXT, row(0, t, 0, wrong), row(2, t, 0, wrong)), [[-1], [-1]])

    def test_ends(self):
        self.assertEqual(tell(TEXT, row(0, LAST_MINUTE, 0, 0)), [[0, 0]])
        self.assertEqual(tell(TEXT, row(0, FIRST_MINUTE, 0, 0)), [[0, 0]])
        last = tell(TEXT, place(0, LAST_MINUTE, 0))[0][1]
        self.assertEqual(tell(TEXT, row(0, LAST_MINUTE, 0, 1), row(0, LAST_MINUTE, 0, 2)), [[0, 1, last], [-1]])
        for m in (2, 100, 256):
            told = tell(TEXT, row(0, LAST_MINUTE - m + 1, 0, m), row(0, LAST_MINUTE - m + 2, 0, m))
            self.assertEqual((told[0][:2], told[0][-1], told[1]), ([0, m], last, [-1]))

    def test_t_and_b(self):
        for wrong in (FIRST_MINUTE - 1, LAST_MINUTE + 1, MOST, -MOST):
            for m in (0, 1, 2, 256, 257):
                self.assertEqual(tell(TEXT, row(0, wrong, 0, m), row(0, 0, wrong, m), row(1, wrong, wrong, m)), [[-1]] * 3)
        self.assertEqual(tell(TEXT, row(0, FIRST_MINUTE - 1, 0, 2)), [[-1]])
        for right in (FIRST_MINUTE, LAST_MINUTE):
            self.assertEqual(tell(TEXT, row(0, 0, right, 1)), [[0, 1, 0]])

    def test_no_such_wave_comes_first(self):
        for number in (4, 5, MOST):
            for t, b, m in ((0, 0, 0), (0, 0, 1), (0, 0, 257), (LAST_MINUTE + 1, 0, 0), (0, -MOST, 0), (LAST_MINUTE, 0, 2)):
                self.assertEqual(tell(TEXT, row(number, t, b, m)), [[-4]])

    def test_no_sky_comes_before_all(self):
        for number, t, b, m in ((0, 0, 0, 0), (MOST, 0, 0, 1), (0, MOST, 0, 1), (0, 0, -MOST, 1), (0, 0, 0, MOST)):
            self.assertEqual(ask(row(number, t, b, m), sky("sum"), row(number, t, b, m)), [[-3], [-6, 1, 3], [-3]])
