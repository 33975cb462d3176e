"""B1: printed, a text is right, prints itself and tells the same."""

from tests.helpers import PRINT, SIZE, SkyCase, ask, bytes_answer, find, name, printed, sky

NUMBERS = (
    ("0", "0"), ("00", "0"), ("000", "0"), ("-0", "0"), ("-000", "0"), ("0.0", "0"), ("-0.000000000000", "0"),
    ("1", "1"), ("01", "1"), ("001", "1"), ("010", "10"), ("100", "100"), ("-007", "-7"), ("999", "999"),
    ("0.5", "0.5"), ("000.5", "0.5"), ("-0.5", "-0.5"), ("-00.50", "-0.5"), ("5.10", "5.1"), ("5.000", "5"),
    ("-5.000", "-5"), ("10.0", "10"), ("100.000", "100"), ("0.05", "0.05"), ("0.050", "0.05"),
    ("12.003400", "12.0034"), ("0.000000000001", "0.000000000001"), ("-0.000000000001", "-0.000000000001"),
    ("123.123456789012", "123.123456789012"), ("999.999999999999", "999.999999999999"),
)


class Printed(SkyCase):
    def test_empty(self):
        self.assertEqual(ask(sky(""), PRINT), [[0], [0, 0]])

    def test_numbers(self):
        for given, told in NUMBERS:
            self.assert_printed(f"angle A {given} {given}\n", f"angle A {told} {told}\n")
            self.assert_printed(f"angle A 1 {given}\nwave W A shift {given} A\n",
                                f"angle A 1 {told}\nwave W A shift {told} A\n")

    def test_factors(self):
        for given, told in NUMBERS:
            if told.lstrip("-").startswith("0"):
                self.assert_printed(f"angle A 1 2\nwave W A factor {given} A\n",
                                    f"angle A 1 2\nwave W A factor {told} A\n")

    def test_counts(self):
        head = "angle A 1 2\nangle B 1 2\nwave W A\n"
        for given, told in (("1 A", "A"), ("- 1 A", "- A"), ("A + 1 B", "A + B"), ("1 A - 1 B", "A - B"),
                            ("2 A - 1 B", "2 A - B"), ("- 10 A + 11 B", "- 10 A + 11 B"), ("15 A", "15 A")):
            self.assert_printed(head + f"wave V {given}\n", head + f"wave V {told}\n")
            self.assert_printed(head + f"wave V A factor 0.1 {given} shift 1 {given}\n",
                                head + f"wave V A factor 0.1 {told} shift 1 {told}\n")
        self.assert_printed(head + "sum S 1 W - 1 W + 3 W\n", head + "sum S W - W + 3 W\n")

    def test_all_else_as_it_stands(self):
        text = ("angle turn 1 -2.5\nangle A0 0 0\nwave b - 2 turn + A0 - turn turn 270 factor -0.5 A0 factor 0 - turn"
                " shift 3 turn shift 3 turn - A0\nangle late 0 1\nwave c A0 turn 90\nsum s - b + 2 c\nwave d late turn 180\n"
                "sum t d\n")
        self.assert_printed(text, text)

    def test_printed_is_right_prints_itself_and_tells_the_same(self):
        text = ("angle A 010.50 -000.0\nangle B 1.0 1\nwave W 1 A - 1 B turn 90 factor 00.250 1 A shift -0 2 B\n"
                "sum S 1 W\nwave V - 1 B\n")
        once = printed(text)
        self.assertEqual(once, "angle A 10.5 0\nangle B 1 1\nwave W A - B turn 90 factor 0.25 A shift 0 2 B\n"
                               "sum S W\nwave V - B\n")
        self.assert_right(once)
        self.assertEqual(printed(once), once)
        asked = [SIZE, name(0), name(1), name(2), name(3), find("W"), find("S"), find("V"), find("A"), find("X")]
        told = ask(sky(text), *asked)
        self.assertEqual(told, ask(sky(once), *asked))
        self.assertEqual(told[1:5], [[0, 2, 3], bytes_answer("W"), bytes_answer("S"), bytes_answer("V")])

    def test_printing_changes_nothing(self):
        text = "angle A 1 2\nwave W A\n"
        self.assertEqual(ask(sky(text), PRINT, PRINT, SIZE, PRINT),
                         [[0], bytes_answer(text), bytes_answer(text), [0, 1, 1], bytes_answer(text)])
