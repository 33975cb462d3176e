"""B1: kinds 2 to 5, and which fault is told."""

from tests.helpers import SkyCase

HEAD = "angle A 0 1\nangle B 0 2\nwave W A\nsum S W\n"


def angles(many):
    return "".join(f"angle a{k} 0 {k}\n" for k in range(many))


def waves(many):
    return "".join(f"wave w{k} A\n" for k in range(many))


class NamesTwice(SkyCase):
    def test_each_sort_after_each(self):
        for earlier in "ABWS":
            self.assert_fault(2, HEAD + f"angle |{earlier} 0 1\n")
            self.assert_fault(2, HEAD + f"wave |{earlier} A\n")
            self.assert_fault(2, HEAD + f"sum |{earlier} W\n")

    def test_names_differ_by_case_and_length(self):
        self.assert_right(HEAD + "angle a 0 1\nangle AA 0 1\nangle A1 0 1\nwave w A\nsum s W\n")

    def test_a_line_may_come_far_behind(self):
        self.assert_fault(2, HEAD + waves(120) + "angle |A 0 1\n")


class NamesInSums(SkyCase):
    def test_a_wave_needs_angles(self):
        for wrong in ("W", "S", "X", "a", "AA", "V"):
            self.assert_fault(3, HEAD + f"wave V |{wrong}\n")
            self.assert_fault(3, HEAD + f"wave V - |{wrong}\n")
            self.assert_fault(3, HEAD + f"wave V - 12 |{wrong}\n")
            self.assert_fault(3, HEAD + f"wave V A + 2 B - |{wrong} + A\n")
            self.assert_fault(3, HEAD + f"wave V A factor 0 B factor 0 A + |{wrong} shift 1 A\n")
            self.assert_fault(3, HEAD + f"wave V A factor 0 B shift 0 A shift 1 |{wrong}\n")

    def test_a_sum_needs_waves(self):
        for wrong in ("A", "S", "X", "w", "WW", "T"):
            self.assert_fault(3, HEAD + f"sum T |{wrong}\n")
            self.assert_fault(3, HEAD + f"sum T - 2 |{wrong}\n")
            self.assert_fault(3, HEAD + f"sum T W + 2 W - |{wrong}\n")

    def test_later_lines_do_not_count(self):
        self.assert_fault(3, "wave V |A\nangle A 0 1\n")
        self.assert_fault(3, "wave V |W\nwave W V\n")
        self.assert_fault(3, "angle A 0 1\nwave V A factor 0 |B\nangle B 0 1\n")
        self.assert_fault(3, "angle A 0 1\nsum S |W\nwave W A\n")

    def test_the_line_itself_does_not_count(self):
        self.assert_fault(3, HEAD + "wave V |V\n")
        self.assert_fault(3, HEAD + "wave V A shift 1 |V\n")
        self.assert_fault(3, HEAD + "sum T |T\n")

    def test_words_as_missing_names(self):
        self.assert_fault(3, HEAD + "wave V |turn turn 90\n")
        self.assert_fault(3, HEAD + "wave V A turn 90 factor 0 |factor\n")

    def test_a_name_may_stand_twice(self):
        self.assert_right(HEAD + "wave V A + A - 3 A\nsum T W + W - W\n")


class TooMany(SkyCase):
    def test_angles(self):
        self.assert_right(angles(16))
        self.assert_fault(4, angles(16) + "angle |x 0 0\n")
        self.assert_fault(4, angles(16) + "angle |x 0 0\nangle y 0 0\n")
        self.assert_right(angles(16) + "wave x a15\nsum y x\n")
        self.assert_fault(4, angles(15) + "wave x a1\nangle z 0 0\nsum y x\nangle |u 0 0\n")

    def test_waves_and_sums_together(self):
        head = "angle A 0 1\n"
        self.assert_right(head + waves(128))
        self.assert_fault(4, head + waves(128) + "wave |V A\n")
        self.assert_fault(4, head + waves(128) + "sum |V w1\n")
        self.assert_right(head + waves(127) + "sum S w1\n")
        self.assert_fault(4, head + waves(127) + "sum S w1\nsum |T w1\n")
        self.assert_fault(4, head + waves(127) + "sum S w1\nwave |V A\n")
        self.assert_right(head + waves(1) + "".join(f"sum s{k} w0\n" for k in range(127)))
        self.assert_fault(4, head + waves(1) + "".join(f"sum s{k} w0\n" for k in range(127)) + "wave |V A\n")

    def test_apart_from_one_another(self):
        text = angles(16) + "".join(f"wave w{k} a{k % 16}\n" for k in range(128))
        self.assert_right(text)
        self.assert_fault(4, text + "angle |x 0 0\n")
        self.assert_fault(4, text + "wave |x a0\n")


class TooLarge(SkyCase):
    def factors(self, *numbers):
        return "".join(f" factor {number} A" for number in numbers)

    def test_just_below_1(self):
        for numbers in (("0.999999999999",), ("-0.999999999999",), ("0.5", "0.499999999999"),
                        ("-0.5", "-0.499999999999"), ("000.9", "-0.09", "0.009999999999"), ("0.124999999999",) * 8):
            self.assert_right(HEAD + f"wave V A{self.factors(*numbers)}\n")

    def test_just_1_or_more(self):
        for numbers in (("1",), ("-1",), ("001.000",), ("0.5", "0.5"), ("0.5", "-0.5"), ("-0.5", "-0.5"),
                        ("1", "-1"), ("0.999999999999", "0.000000000001"), ("-0.999999999999", "0.000000000001"),
                        ("0.125",) * 8, ("-999.999999999999",), ("0", "2", "-1.5")):
            self.assert_fault(5, HEAD + f"wave |V A{self.factors(*numbers)}\n")

    def test_shifts_may_be_any(self):
        self.assert_right(HEAD + "wave V A factor 0.5 A shift 999.999999999999 A shift -999 A\n")

    def test_each_wave_by_itself(self):
        self.assert_right(HEAD + "wave V A factor 0.6 A\nwave U A factor 0.6 A\n")

    def test_counts_of_sums(self):
        for right in ("12 W", "- 12 W", "6 W - 6 W", "W + 11 W", "W + W + W + W + W + W + W + 5 W", "1 W - 11 W"):
            self.assert_right(HEAD + f"sum T {right}\n")
        for wrong in ("13 W", "- 13 W", "6 W - 7 W", "W + 12 W", "W - 12 W", "W + W + W + W + W + W + W - 6 W", "15 W"):
            self.assert_fault(5, HEAD + f"sum |T {wrong}\n")

    def test_counts_of_waves_may_be_more(self):
        eight = " - ".join(["15 A"] * 8)
        self.assert_right(HEAD + f"wave V {eight} factor 0.1 {eight} shift 1 {eight}\n")


class WhichIsTold(SkyCase):
    def test_first_by_place(self):
        self.assert_fault(3, HEAD + "wave V |X\nangle A 0 0\n")
        self.assert_fault(2, HEAD + "angle |A 0 0\nwave V X\n")
        self.assert_fault(5, HEAD + "wave |V X factor 1 A\n")
        self.assert_fault(5, HEAD + "sum |T 13 X\n")
        self.assert_fault(5, HEAD + "wave |V A factor 1 X\nangle A 0 0\n")
        self.assert_fault(3, HEAD + "wave V |X + Y shift 1 Z\n")
        self.assert_fault(3, HEAD + "wave V A + |Y factor 0 Z\n")
        self.assert_fault(3, HEAD + "wave V A factor 0 |Y shift 1 Z\n")
        self.assert_fault(2, HEAD + "wave |A X\n")

    def test_lesser_kind_at_one_place(self):
        head = "angle A 0 1\n" + waves(128)
        self.assert_fault(2, HEAD + "wave |W A factor 1 A\n")
        self.assert_fault(2, HEAD + "sum |W 13 W\n")
        self.assert_fault(2, angles(16) + "angle |a0 0 1\n")
        self.assert_fault(2, head + "wave |w0 A factor 1 A\n")
        self.assert_fault(4, head + "wave |V A factor 1 A\n")
        self.assert_fault(4, head + "sum |V 13 w0\n")
        self.assert_fault(4, head + "sum |V 13 X\n")
