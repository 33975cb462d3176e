"""B3: the call place."""

from tests.helpers import FIRST_MINUTE, LAST_MINUTE, MOST, Reckoned, SkyCase, ask, place, sky, tell

TURN = 2 ** 32
ONE = 2 ** 30
HALF_ROOT = 759250125


def stands(text, t=0, b=0):
    """Where wave 0 stands, and its factor."""
    told = tell(text, place(0, t, b))[0]
    assert told[0] == 0 and len(told) == 3, told
    return tuple(told[1:])


def angle_stands(phase, rate=0, t=0, terms="A"):
    return stands(f"angle A {phase} {rate}\nwave W {terms}\n", t)[0]


class Arguments(SkyCase):
    def test_phases(self):
        for phase, expected in (("0", 0), ("90", TURN // 4), ("180", TURN // 2), ("270", 3 * TURN // 4), ("360", 0),
                                ("450", TURN // 4), ("-90", 3 * TURN // 4), ("-360", 0), ("-450", 3 * TURN // 4),
                                ("45", TURN // 8), ("120", TURN // 3), ("-120", TURN - TURN // 3 - 1), ("720", 0)):
            self.assertEqual(angle_stands(phase), expected, phase)

    def test_rates_are_told_by_the_hour(self):
        for rate, t, expected in (("90", 60, TURN // 4), ("90", 0, 0), ("90", -60, 3 * TURN // 4), ("-90", 60, 3 * TURN // 4),
                                  ("360", 1, TURN // 60), ("360", 59, TURN * 59 // 60), ("360", 60, 0),
                                  ("360", -1, TURN - TURN // 60 - 1), ("45", 600, TURN // 4)):
            self.assertEqual(angle_stands("0", rate, t), expected, (rate, t))
        self.assertEqual(angle_stands("30", "60", 60), TURN // 4)

    def test_terms(self):
        for terms, expected in (("A", 45), ("2 A", 90), ("15 A", 675), ("- A", -45), ("- 3 A", -135), ("A + A", 90),
                                ("A - A", 0), ("4 A - 2 A + A", 135), ("A - 15 A", -630),
                                (" + ".join(["15 A"] * 8), 45 * 120), ("- " + " - ".join(["15 A"] * 8), -45 * 120)):
            self.assertEqual(angle_stands("45", terms=terms), expected * TURN // 360 % TURN, terms)

    def test_each_angle_has_its_own(self):
        text = "angle A 90 0\nangle B 0 45\nangle C -0.5 360\nwave W A - 2 B + C\n"
        self.assertEqual(stands(text, 60)[0], (90 * 10 - 90 * 10 - 5) * TURN // 3600 % TURN)

    def test_turns(self):
        for turn in (90, 180, 270):
            self.assertEqual(angle_stands("0", terms=f"A turn {turn}"), turn * TURN // 360)
            self.assertEqual(angle_stands("100", terms=f"- A turn {turn}"), (turn - 100) * TURN // 360 % TURN)
            self.assertEqual(angle_stands("100", terms=f"4 A turn {turn}"), (turn + 400) * TURN // 360 % TURN)

    def test_a_turn_may_stand_beside_its_name(self):
        self.assertEqual(stands("angle turn 1 0\nwave W turn turn 90\n")[0], 91 * TURN // 360)


class Minutes(SkyCase):
    TEXT = "angle A 12.5 0.000000000001\nangle B -7 999.999999999999\nwave W A - 3 B factor 0.5 B shift 20 A + B\nsum S - 5 W\n"

    def test_at_the_ends(self):
        reckoned = Reckoned(self.TEXT)
        for number in (0, 1):
            for t in (0, FIRST_MINUTE, LAST_MINUTE):
                for b in (0, FIRST_MINUTE, LAST_MINUTE):
                    self.assertEqual(tell(self.TEXT, place(number, t, b)), [reckoned.place(number, t, b)], (number, t, b))

    def test_known_places_at_the_ends(self):
        """A turn in 64 minutes, and the same once more with a phase."""
        for phase, t, expected in (("0", FIRST_MINUTE, 0), ("0", LAST_MINUTE, 63), ("0", 0, 0), ("0", 1, 1), ("0", -1, 63),
                                   ("11.25", FIRST_MINUTE, 2), ("11.25", LAST_MINUTE, 1)):
            self.assertEqual(angle_stands(phase, "337.5", t), expected * TURN // 64, (phase, t))

    def test_one_beyond(self):
        for wrong in (FIRST_MINUTE - 1, LAST_MINUTE + 1, 2 ** 32, -2 ** 32, MOST, -MOST):
            self.assertEqual(tell(self.TEXT, place(0, wrong, 0), place(0, 0, wrong), place(0, wrong, wrong), place(1, wrong, 0),
                                  place(1, 0, wrong)), [[-1]] * 5)
            self.assertEqual(len(tell(self.TEXT, place(0, wrong, 0), place(0, 0, 0))[1]), 3)

    def test_no_such_wave_comes_first(self):
        for number in (2, 3, MOST):
            for t, b in ((0, 0), (FIRST_MINUTE - 1, 0), (0, LAST_MINUTE + 1), (MOST, -MOST)):
                self.assertEqual(tell(self.TEXT, place(number, t, b)), [[-4]])

    def test_no_sky_comes_before_all(self):
        for number in (0, MOST):
            for t, b in ((0, 0), (FIRST_MINUTE - 1, 0), (0, LAST_MINUTE + 1)):
                self.assertEqual(ask(place(number, t, b), sky("sum"), place(number, t, b)), [[-3], [-6, 1, 3], [-3]])

    def test_each_of_t_and_b_counts(self):
        """t moves the argument alone, b the factor and the shift alone."""
        text = "angle A 0 90\nwave W A factor 0.5 A shift 90 A\n"
        self.assertEqual([stands(text, t, b) for t, b in ((0, 0), (60, 0), (0, 60), (120, 60), (60, 120))],
                         [(0, 3 * ONE // 2), (ONE, 3 * ONE // 2), (ONE, ONE), (3 * ONE, ONE), (ONE, ONE // 2)])


class Cuts(SkyCase):
    # 0.010986328125 degrees are just 2^17 of 2^32.
    def test_by_phases(self):
        for phase, expected in (("0.010986328125", 2 ** 17), ("0.010986328126", 2 ** 17), ("0.010986328124", 2 ** 17 - 1),
                                ("-0.010986328125", -2 ** 17), ("-0.010986328124", -2 ** 17),
                                ("-0.010986328126", -2 ** 17 - 1), ("0.000000000001", 0), ("-0.000000000001", -1),
                                ("359.999999999999", -1), ("-359.999999999999", 0), ("360.000000000001", 0)):
            self.assertEqual(angle_stands(phase), expected % TURN, phase)

    # The slowest rate's minute is 1/60 of a phase's last place.
    def test_by_minutes(self):
        slowest = "0.000000000001"
        for phase in ("0", "0.010986328125", "-0.010986328125", "-360", "720"):
            at = angle_stands(phase, slowest, 0)
            self.assertEqual(angle_stands(phase, slowest, 1), at)
            self.assertEqual(angle_stands(phase, slowest, -1), (at - 1) % TURN)
            self.assertEqual(angle_stands(phase, "-" + slowest, 1), (at - 1) % TURN)
            self.assertEqual(angle_stands(phase, "-" + slowest, -1), at)

    # g is 1, of which S is 2; the shift is some 2^-70 of a turn.
    def test_by_shifts(self):
        for phase in ("0", "90", "-90", "0.010986328125", "-0.010986328125"):
            text = f"angle A {phase} 0\nangle G 0.0000001 0\nwave W A"
            at = stands(text + "\n")[0]
            self.assertEqual(stands(text + " shift 0.000000000001 G\n")[0], at)
            self.assertEqual(stands(text + " shift -0.000000000001 G\n")[0], (at - 1) % TURN)
            self.assertEqual(stands(text + " shift -0.000000000001 - G\n")[0], at)
            self.assertEqual(stands(text + " shift 0.000000000001 - G\n")[0], (at - 1) % TURN)
            self.assertEqual(stands(text + " shift 0.000000000001 G shift -0.000000000001 G\n")[0], at)

    # -G is cut to -2, as it lies between -1 and -2: of these S is -2 and -3.
    def test_of_the_swings_angles(self):
        text = "angle A 0 0\nangle G 0.0000001 0\nwave W A shift 90 "
        self.assertEqual(stands(text + "G\n")[0], 2)
        self.assertEqual(stands(text + "- G\n")[0], TURN - 3)
        self.assertEqual(stands(text + "G - G\n")[0], 0)

    # Of two waves in one sum nothing is cut before the end.
    def test_of_sums(self):
        head = "angle A 0.00000005 0\nwave V A\nwave W - A\n"
        self.assertEqual(tell(head + "sum S V + V\n", place(0, 0, 0), place(1, 0, 0), place(2, 0, 0)),
                         [[0, 0, ONE], [0, TURN - 1, ONE], [0, 1, ONE]])
        self.assertEqual(tell(head + "sum S V + W\nsum T V - W\nsum U - 2 W\nsum X 12 W\n", *[place(k, 0, 0) for k in range(2, 6)]),
                         [[0, 0, ONE], [0, 1, ONE], [0, 1, ONE], [0, TURN - 8, ONE]])

    def test_within_and_below(self):
        text = "angle A 12.34567 -0.987654321\nangle B 200.5 28.98410424\nwave W 3 A - 2 B turn 90 shift 12.5 A shift -3 B\nsum S W - 4 W\n"
        reckoned = Reckoned(text)
        for t in (FIRST_MINUTE, -99999, -1, 0, 1, 2, 3, 12345, LAST_MINUTE):
            for number in (0, 1):
                told = tell(text, place(number, t, 7 - t // 2))[0][1]
                exact = reckoned.exact(number, t, 7 - t // 2) % 1 * TURN
                self.assertTrue(0 <= exact - told < 1, (number, t))


class Factors(SkyCase):
    def factor(self, factors, phase="0"):
        return stands(f"angle A {phase} 0\nangle Q 90 0\nwave W A{factors}\n")[1]

    def test_none(self):
        self.assertEqual(self.factor(""), ONE)
        self.assertEqual(self.factor(" shift 90 A"), ONE)

    def test_with_and_without_minus(self):
        self.assertEqual(self.factor(" factor 0.5 A"), 3 * ONE // 2)
        self.assertEqual(self.factor(" factor -0.5 A"), ONE // 2)
        self.assertEqual(self.factor(" factor 0.5 A", "180"), ONE // 2)
        self.assertEqual(self.factor(" factor -0.5 A", "180"), 3 * ONE // 2)
        self.assertEqual(self.factor(" factor 0.5 - A", "45"), self.factor(" factor 0.5 A", "45"))
        self.assertEqual(self.factor(" factor 0.5 A factor 0.25 A"), 7 * ONE // 4)
        self.assertEqual(self.factor(" factor 0.5 A factor -0.25 A"), 5 * ONE // 4)
        self.assertEqual(self.factor(" factor 0.5 Q"), ONE)
        self.assertEqual(self.factor(" factor 0.5 2 Q"), ONE // 2)
        self.assertEqual(self.factor(" factor -0.5 2 Q - 4 Q"), 3 * ONE // 2)
        self.assertEqual(self.factor(" factor -0 A"), ONE)
        self.assertEqual(self.factor(" factor 0.125 A" * 7), ONE + 7 * ONE // 8)

    def test_least_and_largest(self):
        self.assertEqual(self.factor(" factor 0.999999999999 A"), 2 * ONE)
        self.assertEqual(self.factor(" factor -0.999999999999 A"), 0)
        self.assertEqual(self.factor(" factor 0.999999999 A"), 2 * ONE - 1)
        self.assertEqual(self.factor(" factor -0.999999999 A"), 1)

    # C of an eighth is odd.
    def test_ties(self):
        half = HALF_ROOT // 2
        for factors in (" factor 0.5 A", " factor 0.25 A factor 0.25 A", " factor 0.625 A factor -0.125 A",
                        " factor -0.5 3 A", " factor 0.500000000000 A"):
            self.assertEqual(self.factor(factors, "45"), ONE + half + 1, factors)
        for factors in (" factor -0.5 A", " factor 0.5 3 A", " factor -0.25 A factor 0.25 5 A"):
            self.assertEqual(self.factor(factors, "45"), ONE - half, factors)
        self.assertEqual(self.factor(" factor 0.499999999999 A", "45"), ONE + half)
        self.assertEqual(self.factor(" factor -0.500000000001 A", "45"), ONE - half - 1)
        self.assertEqual(self.factor(" factor 0.5 A factor 0.25 Q", "45"), ONE + half + 1)

    # Rounded once, all together: twice a half is one.
    def test_of_several_are_added_first(self):
        self.assertEqual(self.factor(" factor 0.125 A factor 0.125 A", "45"), ONE + (HALF_ROOT + 2) // 4)
        self.assertEqual(self.factor(" factor 0.25 A" * 3, "45"), ONE + (3 * HALF_ROOT + 2) // 4)

    def test_turn_does_not_matter(self):
        for turn in ("", " turn 90", " turn 180", " turn 270"):
            self.assertEqual(self.factor(turn + " factor 0.5 A"), 3 * ONE // 2)


class Shifts(SkyCase):
    def place(self, shifts, phase="90"):
        return stands(f"angle A {phase} 0\nangle Z 0 0\nwave W Z{shifts}\n")[0]

    def test_with_and_without_minus(self):
        self.assertEqual(self.place(" shift 90 A"), ONE)
        self.assertEqual(self.place(" shift -90 A"), 3 * ONE)
        self.assertEqual(self.place(" shift 90 - A"), 3 * ONE)
        self.assertEqual(self.place(" shift -90 - A"), ONE)
        self.assertEqual(self.place(" shift 90 A", "-90"), 3 * ONE)
        self.assertEqual(self.place(" shift 90 A", "0"), 0)
        self.assertEqual(self.place(" shift 90 2 A"), 0)
        self.assertEqual(self.place(" shift 90 3 A"), 3 * ONE)
        self.assertEqual(self.place(" shift 90 A shift 45 A"), 3 * ONE // 2)
        self.assertEqual(self.place(" shift 90 A shift -45 A"), ONE // 2)
        self.assertEqual(self.place(" shift 0 A"), 0)
        self.assertEqual(self.place(" shift 45 A" * 8), 0)
        self.assertEqual(self.place(" shift 45 A" * 7), 7 * ONE // 2)

    def test_more_than_a_turn(self):
        self.assertEqual(self.place(" shift 810 A"), ONE)
        self.assertEqual(self.place(" shift -810 A"), 3 * ONE)
        self.assertEqual(self.place(" shift 990 A" * 8), 0)
        self.assertEqual(self.place(" shift 990 A" * 5), 3 * 5 * ONE % TURN)

    def test_of_an_eighth(self):
        self.assertEqual(self.place(" shift 90 A", "45"), HALF_ROOT)
        self.assertEqual(self.place(" shift 45 A", "45"), HALF_ROOT // 2)
        self.assertEqual(self.place(" shift -45 A", "45"), TURN - HALF_ROOT // 2 - 1)
        self.assertEqual(self.place(" shift 45 A shift 45 A", "45"), HALF_ROOT)

    def test_does_not_touch_the_factor(self):
        self.assertEqual(stands("angle A 90 0\nwave W A factor 0.5 2 A shift 90 A\n"), (2 * ONE, ONE // 2))


class Sums(SkyCase):
    HEAD = "angle A 45 0\nangle Q 90 0\nwave V A turn 90 factor 0.5 4 A shift 10 Q\nwave W Q factor -0.5 A\nwave X - A factor 0.5 8 A\n"

    def told(self, terms):
        return tell(self.HEAD + f"sum S {terms}\n", place(3, 0, 0))[0]

    def degrees(self, number):
        return number * TURN // 360 % TURN

    def test_single_waves(self):
        w = ONE - HALF_ROOT // 2
        self.assertEqual(tell(self.HEAD, *[place(k, 0, 0) for k in range(3)]),
                         [[0, self.degrees(145), ONE // 2], [0, ONE, w], [0, self.degrees(-45), 3 * ONE // 2]])

    def test_counts(self):
        for count in range(1, 13):
            self.assertEqual(self.told(f"{count} V"), [0, self.degrees(145 * count), ONE // 2 ** count])
            self.assertEqual(self.told(f"- {count} V"), [0, self.degrees(-145 * count), ONE // 2 ** count])

    def test_large_factors(self):
        self.assertEqual(self.told("12 X"), [0, self.degrees(-45 * 12), (3 ** 12 * ONE + 2 ** 11) // 2 ** 12])
        self.assertEqual(self.told("- 12 X"), [0, self.degrees(45 * 12), (3 ** 12 * ONE + 2 ** 11) // 2 ** 12])
        text = "angle A 0 0\nwave W A factor 0.999999999999 A\nwave V A factor -0.999999999999 A\nsum S 12 W\nsum T V\nsum U 11 W - V\n"
        self.assertEqual(tell(text, *[place(k, 0, 0) for k in range(2, 5)]), [[0, 0, 2 ** 42], [0, 0, 0], [0, 0, 0]])

    def test_of_several(self):
        self.assertEqual(self.told("V + X"), [0, self.degrees(100), 3 * ONE // 4])
        self.assertEqual(self.told("V - X"), [0, self.degrees(190), 3 * ONE // 4])
        self.assertEqual(self.told("- V - X"), [0, self.degrees(-100), 3 * ONE // 4])
        self.assertEqual(self.told("- 2 V + 3 X"), [0, self.degrees(-290 - 135), 27 * ONE // 32])
        self.assertEqual(self.told("V + V - 2 V + V - V"), [0, 0, ONE // 64])
        self.assertEqual(self.told(" + ".join(["V"] * 7) + " - 5 X"),
                         [0, self.degrees(145 * 7 + 45 * 5), (3 ** 5 * ONE + 2 ** 11) // 2 ** 12])

    # W's factor is even, and half of it odd: so twice V's half and X's one and a half come to ties.
    def test_ties(self):
        w = ONE - HALF_ROOT // 2
        self.assertEqual(w % 4, 2)
        self.assertEqual(self.told("W + V")[2], w // 2)
        self.assertEqual(self.told("W + 2 V")[2], (w // 2 + 1) // 2)
        self.assertEqual(self.told("- W - 2 V")[2], (w // 2 + 1) // 2)
        self.assertEqual(self.told("W + V + X")[2], (3 * w // 2 + 1) // 2)
        self.assertEqual(self.told("2 W")[2], (2 * w * w + ONE) // (2 * ONE))
        self.assertEqual(self.told("3 W")[2], (2 * w ** 3 + ONE ** 2) // (2 * ONE ** 2))

    # The product is rounded once: of 1 / 2^31 and 2 it is 1 / 2^30.
    def test_rounded_once(self):
        text = "angle A 0 0\nwave T A factor -0.999999999 A\nwave H A factor -0.5 A\nwave D A factor 0.999999999999 A\n"
        self.assertEqual(tell(text + "sum S T + H + D\nsum R T + H\nsum Q T + 2 H\nsum P T + 2 H + 2 D\n",
                              *[place(k, 0, 0) for k in range(3, 7)]), [[0, 0, 1], [0, 0, 1], [0, 0, 0], [0, 0, 1]])

    def test_shifts_go_with_counts(self):
        text = "angle Z 0 0\nangle Q 90 0\nwave V Z shift 10 Q\nwave W Z shift -7 Q shift 3 - Q\nsum S 5 V - 2 W\nsum T - V + 3 W\n"
        self.assertEqual(tell(text, place(2, 0, 0), place(3, 0, 0)),
                         [[0, self.degrees(70), ONE], [0, self.degrees(-40), ONE]])
