"""B1: kind 1, where a text's grammar is broken."""

from tests.helpers import SkyCase, ask, sky

ANGLES = "angle A 0 1\nangle B 0 2\n"


def terms(many, word="A"):
    return " + ".join([word] * many)


class RightTexts(SkyCase):
    def test_empty(self):
        self.assert_right("")

    def test_each_sort_of_line(self):
        self.assert_right("angle A 1 2\n")
        self.assert_right(ANGLES + "wave W A\n")
        self.assert_right(ANGLES + "wave W A\nsum S W\n")

    def test_whole_wave(self):
        for turn in ("", " turn 90", " turn 180", " turn 270"):
            for factors in ("", " factor 0.1 A", " factor -0.25 - 2 A + B factor 0.5 B"):
                for shifts in ("", " shift 1 A", " shift -10.5 - A - 15 B shift 999.999999999999 B"):
                    self.assert_right(ANGLES + "wave W - 2 A + B" + turn + factors + shifts + "\n")

    def test_words_as_names(self):
        for word in ("turn", "factor", "shift", "angle", "wave", "sum"):
            text = f"angle {word} 1 2\nwave W {word} + 2 {word} turn 90 factor 0.1 {word} shift 1 {word}\n"
            self.assert_right(text)
            self.assert_right(f"angle A 1 2\nwave {word} A\nsum S {word} - 3 {word}\n")
            self.assert_right(f"angle A 1 2\nwave W A\nsum {word} W\n")

    def test_words_as_names_beside_themselves(self):
        self.assert_right("angle turn 0 0\nwave wave turn turn 90\n")
        self.assert_right("angle factor 0 0\nwave wave factor factor 0 factor factor 0 factor\n")
        self.assert_right("angle shift 0 0\nwave wave shift shift 0 shift shift 0 shift\n")


class TooEarlyEnds(SkyCase):
    def test_every_beginning(self):
        text = (ANGLES + "wave W - 12 A + B turn 270 factor -0.5 A factor 0.25 2 B shift 1.5 - A\n"
                + "sum S - W + 2 W\n")
        self.assert_right(text)
        for size in range(len(text)):
            if size and text[size - 1] != "\n":
                self.assert_fault(1, text[:size] + "|")
            else:
                self.assert_right(text[:size])

    def test_line_without_its_end(self):
        self.assert_fault(1, "angle A 1 2|")
        self.assert_fault(1, ANGLES + "wave W A|")
        self.assert_fault(1, ANGLES + "wave W A turn 90|")
        self.assert_fault(1, ANGLES + "wave W A shift 1 B|")
        self.assert_fault(1, ANGLES + "wave W A\nsum S W|")


class WrongBytes(SkyCase):
    def test_every_byte_that_is_in_no_text(self):
        text = ANGLES + "wave W - 12 A + B turn 270 factor -0.5 A shift 1.5 - A\nsum S - W + 2 W\n"
        for place in range(len(text)):
            for wrong in ("\x00", "\t", "\r", "?", "\xff"):
                self.assert_fault(1, text[:place] + "|" + wrong + text[place + 1:])
                self.assert_fault(1, text[:place] + "|" + wrong + text[place:])

    def test_every_byte_as_first(self):
        for byte in range(256):
            place = 1 if byte in b"aws" else 0
            self.assertEqual(ask([0, 1, byte]), [[-6, 1, place]])

    def test_words_of_lines(self):
        for marked in ("|Angle A 1 2\n", "an|Gle A 1 2\n", "angle|s A 1 2\n", "angle|\n", "wa|nder W A\n",
                       "wave|\tW A\n", "su|n S W\n", "s|hift S W\n", "|turn 90\n", "| angle A 1 2\n", "|\n",
                       "angle A 1 2\n|\n", "angle A 1 2\n| angle B 1 2\n", "angle A 1 2|\r\n"):
            self.assert_fault(1, marked)

    def test_blanks(self):
        for marked in ("angle | A 1 2\n", "angle A | 1 2\n", "angle A 1 | 2\n", "angle A 1 2| \n",
                       ANGLES + "wave W | A\n", ANGLES + "wave W A |\n", ANGLES + "wave W A | turn 90\n",
                       ANGLES + "wave W A turn | 90\n", ANGLES + "wave W A turn 90 |\n",
                       ANGLES + "wave W A factor | 1 A\n", ANGLES + "wave W A factor 1 | A\n",
                       ANGLES + "wave W A + | B\n", ANGLES + "wave W 2 | A\n", ANGLES + "wave W - | A\n",
                       ANGLES + "wave W A|+ B\n", ANGLES + "wave W A +|B\n", ANGLES + "wave W -|A\n",
                       ANGLES + "wave W 2|A\n", ANGLES + "wave W A\nsum S W |\n"):
            self.assert_fault(1, marked)

    def test_names(self):
        for marked in ("angle |1A 1 2\n", "angle |_A 1 2\n", "angle A|_ 1 2\n", "angle A|-B 1 2\n",
                       "angle |- 1 2\n", "angle |\n", "angle A|\n", "angle A|.5 1 2\n", "angle |\xe4 1 2\n",
                       ANGLES + "wave |2 A\n", ANGLES + "wave W|\n", ANGLES + "wave W A|.\n",
                       ANGLES + "sum |+ A\n", ANGLES + "angle |@ 1 2\n", ANGLES + "angle |[ 1 2\n",
                       ANGLES + "angle |` 1 2\n", ANGLES + "angle |{ 1 2\n", ANGLES + "angle A|/ 1 2\n",
                       ANGLES + "angle A|: 1 2\n"):
            self.assert_fault(1, marked)

    def test_numbers(self):
        for number in ("|x", "|.5", "|+1", "-| 1", "-|-1", "-|.5", "1.|", "1.| ", "1.|.5", "1.5|.5", "1|e3", "1|,5",
                       "1|-", "-|", "1.|-5", "1|/2", "1|:"):
            self.assert_fault(1, f"angle A {number} 2\n")
            self.assert_fault(1, f"angle A 2 {number}\n")
            self.assert_fault(1, ANGLES + f"wave W A factor {number} A\n")
            self.assert_fault(1, ANGLES + f"wave W A shift {number} A\n")
        self.assert_fault(1, "angle A 1|\n")
        self.assert_fault(1, "angle A 1 |\n")
        self.assert_fault(1, "angle A 1 2| 3\n")

    def test_sums(self):
        for head in ("wave W ", "wave W A factor 0 ", "wave W A shift 0 ", "sum S "):
            for broken in ("|+ A", "|\n", "|* A", "- |- A", "- |+ A", "A + |+ A", "A + |- A", "A +|\n", "A + |\n",
                           "A |* A", "A |A", "A |2 A", "A |& A", "2 |2 A", "2 |- A", "2 |+ A", "2|\n", "2 |\n",
                           "A -|A"):
                self.assert_fault(1, ANGLES + head + broken + "\n")

    def test_what_follows_a_wave(self):
        for broken in ("turn|s 90", "t|he", "f|ull", "s|um", "|x", "turn 9|",
                       "turn |45", "turn |0", "turn 9|1", "turn 1|0", "turn 18|1", "turn 2|8", "turn 27|1",
                       "turn |-90", "turn 90|.0", "turn 90|0", "turn 180|0", "turn |360", "turn |\n", "turn|\n",
                       "turn 90 |turn 90", "turn 90 |+ B", "turn 90 |x", "factor 0 B |turn 90", "shift 0 B |turn 90",
                       "shift 0 B |factor 0 B", "factor |B", "shift |B", "factor 0|\n", "shift 0|\n",
                       "factor 0 |\n", "factor|s 0 B", "shift|s 0 B", "factor 0 B s|o"):
            self.assert_fault(1, ANGLES + "wave W A " + broken + "\n")

    def test_what_follows_a_sum(self):
        for broken in ("|turn 90", "|factor 0 W", "|shift 0 W", "|x"):
            self.assert_fault(1, ANGLES + "wave W A\nsum S W " + broken + "\n")

    def test_nothing_but_two_numbers_in_an_angle(self):
        self.assert_fault(1, "angle A 1 2| turn 90\n")
        self.assert_fault(1, "angle A 1 |A\n")


class Edges(SkyCase):
    def test_names_of_7_and_8_signs(self):
        for seven in ("ABCDEFG", "a123456", "z9Z8y7X", "factor7"):
            self.assert_right(f"angle {seven} 1 2\nwave W {seven} - {seven} shift 1 {seven}\n")
            self.assert_right(f"angle A 1 2\nwave {seven} A\nsum S {seven} + {seven}\n")
            self.assert_right(f"angle A 1 2\nwave W A\nsum {seven} W\n")
            for eighth in "Az0":
                self.assert_fault(1, f"angle {seven}|{eighth} 1 2\n")
                self.assert_fault(1, f"wave {seven}|{eighth} A\n")
                self.assert_fault(1, f"sum {seven}|{eighth} A\n")
                self.assert_fault(1, f"wave W {seven}|{eighth}\n")
                self.assert_fault(1, f"wave W A - 3 {seven}|{eighth}\n")
                self.assert_fault(1, f"wave W A shift 1 {seven}|{eighth}\n")
                self.assert_fault(1, f"sum S {seven}|{eighth}\n")

    def test_letters_at_the_ends_of_the_alphabet(self):
        for letter in "AZaz":
            self.assert_right(f"angle {letter} 1 2\nangle {letter}09AZaz 1 2\n")

    def test_digits_of_numbers(self):
        for sign in ("", "-"):
            for right in ("0", "9", "00", "000", "999", "007", "1.0", "123.123456789012", "0.000000000000"):
                self.assert_right(f"angle A {sign}{right} {sign}{right}\n")
                self.assert_right(ANGLES + f"wave W A shift {sign}{right} A\n")
            for broken in ("123|4", "000|0", "123|4.5", "1.123456789012|3", "1.000000000000|0"):
                self.assert_fault(1, f"angle A {sign}{broken} 1\n")
                self.assert_fault(1, f"angle A 1 {sign}{broken}\n")
                self.assert_fault(1, ANGLES + f"wave W A factor {sign}{broken} A\n")
                self.assert_fault(1, ANGLES + f"wave W A shift {sign}{broken} A\n")

    def test_counts_of_waves(self):
        for count in range(1, 16):
            self.assert_right(ANGLES + f"wave W {count} A\n")
            self.assert_right(ANGLES + f"wave W - {count} A + {count} B - {count} B\n")
            self.assert_right(ANGLES + f"wave W A factor 0 {count} A shift 0 {count} A\n")

    def test_wrong_counts(self):
        for head in ("wave W ", "wave W - ", "wave W A + ", "wave W A factor 0 ", "wave W A shift 0 - ", "sum S "):
            for broken in ("|0", "|00", "|01", "|015", "1|6", "1|7", "1|9", "2|0", "9|9", "15|0", "10|0", "1|.5"):
                self.assert_fault(1, ANGLES + head + broken + " A\n")
            self.assert_fault(1, ANGLES + head + "15 |2 A\n")

    def test_count_15_of_a_sum_is_grammar(self):
        self.assert_fault(5, ANGLES + "wave W A\nsum |S 15 W\n")
        self.assert_fault(1, ANGLES + "wave W A\nsum S 1|6 W\n")

    def test_ninth_term(self):
        eight = terms(8)
        self.assert_right(ANGLES + f"wave W {eight}\n")
        self.assert_right(ANGLES + f"wave W - {eight} turn 90\n")
        self.assert_right(ANGLES + f"wave W {eight} factor 0 {eight} shift 0 {eight}\n")
        for sign in "+-":
            self.assert_fault(1, ANGLES + f"wave W {eight} |{sign} A\n")
            self.assert_fault(1, ANGLES + f"wave W A factor 0 {eight} |{sign} A\n")
            self.assert_fault(1, ANGLES + f"wave W A shift 0 {eight} |{sign} A\n")

    def test_ninth_term_where_nothing_else_may_follow(self):
        self.assert_right(ANGLES + f"wave W A\nsum S {terms(8, 'W')}\n")
        self.assert_fault(1, ANGLES + f"wave W A\nsum S {terms(8, 'W')}| + W\n")
        self.assert_fault(1, ANGLES + f"wave W A\nsum S {terms(8, 'W')}| turn\n")
        self.assert_fault(1, ANGLES + f"wave W A\nsum S {terms(8, 'W')}|+\n")
        self.assert_fault(1, ANGLES + f"wave W A\nsum S {terms(7, 'W')} |turn\n")
        seven_shifts = " shift 0 A" * 7
        self.assert_right(ANGLES + f"wave W A{seven_shifts} shift 0 {terms(8)}\n")
        self.assert_fault(1, ANGLES + f"wave W A{seven_shifts} shift 0 {terms(8)}| + A\n")
        self.assert_fault(1, ANGLES + f"wave W A{seven_shifts} shift 0 {terms(8)}| shift 0 A\n")
        self.assert_fault(1, ANGLES + f"wave W A{seven_shifts} shift 0 {terms(7)} |shift 0 A\n")

    def test_ninth_factor(self):
        eight = " factor 0 A" * 8
        self.assert_right(ANGLES + f"wave W A{eight}\n")
        self.assert_right(ANGLES + f"wave W A turn 180{eight} + B shift 0 A\n")
        self.assert_fault(1, ANGLES + f"wave W A{eight} |factor 0 A\n")
        self.assert_fault(1, ANGLES + f"wave W A{' factor 0 A' * 7} factor 0 {terms(8)} |factor 0 A\n")

    def test_ninth_shift(self):
        eight = " shift 0 A" * 8
        self.assert_right(ANGLES + f"wave W A{eight}\n")
        self.assert_right(ANGLES + f"wave W A{' factor 0 A' * 8}{eight}\n")
        self.assert_fault(1, ANGLES + f"wave W A{eight} |shift 0 A\n")
        self.assert_fault(1, ANGLES + f"wave W A{eight} |factor 0 A\n")


class GrammarComesFirst(SkyCase):
    def test_before_every_other_fault(self):
        for earlier in ("angle A 0 1\n", "wave W X\n", "sum S A\n", "wave W A factor 1 A\n", "wave W A\nsum S 13 W\n",
                        "".join(f"angle A{k} 0 0\n" for k in range(17))):
            self.assert_fault(1, ANGLES + earlier + "angle B 1|\n")
            self.assert_fault(1, ANGLES + earlier + "angle B 1 2|")
            self.assert_fault(1, ANGLES + earlier + "|\n")

    def test_first_of_two(self):
        self.assert_fault(1, "angle |1 1 2\nangle 2 1 2\n")
