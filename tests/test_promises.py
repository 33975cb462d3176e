"""B1 to B5 over all nine calls: printed texts, sums of one wave, texts drawn by chance, the largest inputs."""

from tests.helpers import (FIRST_MINUTE, LAST_MINUTE, MOST, PRINT, SIZE, Maker, Reckoned, SkyCase, apart, ask, codes, find, name,
                           place, printed, row, sky, speed, tell)
from tideskies.skies import answers

TURN = 2 ** 32
MINUTES = ((0, 0), (1, -1), (-60, 60), (FIRST_MINUTE, LAST_MINUTE), (LAST_MINUTE, FIRST_MINUTE), (987654, -123456789))
SKY = ("angle A 010.50 -000.4921\nangle B -1.0 001.0\nangle C 00 0.000000000010\n"
       "wave W 1 A - 1 B turn 90 factor 00.250 1 A - 15 C factor -0.50 B shift -0 2 B shift -12.340 - 1 A\n"
       "sum S 1 W\nwave V - 1 B + 3 C shift 007.5 A\nsum T - 2 W + 1 V\nsum U V - 11 V\n")


def calls_of_all(many):
    """Every call but sky, on that many waves and sums and one beyond."""
    calls = [PRINT, SIZE] + [name(i) for i in range(many + 1)] + [speed(i) for i in range(many + 1)]
    for i in range(many + 1):
        calls += [place(i, t, b) for t, b in MINUTES] + [row(i, -1, 5, 3), row(i, LAST_MINUTE, 0, 2)]
        calls += [apart(i, j, m) for j in range(many + 1) for m in (0, 60, 21600, MOST)]
    return calls


class PrintedTellsTheSame(SkyCase):
    def check(self, text, own=()):
        once = printed(text)
        many = ask(sky(text), SIZE)[1][2]
        calls = calls_of_all(many) + [find(each) for each in own]
        for k in range(0, len(calls), 399):
            self.assertEqual(tell(text, *calls[k:k + 399]), tell(once, *calls[k:k + 399]), text)

    def test_a_sky(self):
        self.assertNotEqual(printed(SKY), SKY)
        self.check(SKY, ("A", "W", "S", "V", "T", "U", "X", ""))

    def test_drawn_by_chance(self):
        maker = Maker(5)
        done = 0
        while done < 40:
            text = maker.text()
            if ask(sky(text)) == [[0]] and printed(text) != text:
                self.check(text)
                done += 1


class SumsOfOneWave(SkyCase):
    def check(self, text, number):
        """Adds a sum of this wave alone, and asks both."""
        own = bytes(tell(text, name(number))[0][2:]).decode()
        other = ask(sky(text), SIZE)[1][2]
        for terms in (own, "1 " + own):
            longer = text + f"sum alone {terms}\n"
            for ask_of in self.questions():
                self.assertEqual(*tell(longer, ask_of(number), ask_of(other)), longer)
            told = tell(longer, apart(number, other, MOST), apart(other, number, MOST), name(other))
            self.assertEqual(told, [[0], [0], [0, 5] + codes("alone")])

    def questions(self):
        asked = [speed, lambda i: row(i, -5, 9, 256), lambda i: row(i, LAST_MINUTE, 0, 0)]
        asked += [lambda i, t=t, b=b: place(i, t, b) for t, b in MINUTES]
        asked += [lambda i, t=t, b=b: row(i, t, b, 1) for t, b in MINUTES]
        asked += [lambda i, m=m: apart(i, 0, m) for m in (0, 1, 60, 43200, 10 ** 7, MOST)]
        asked += [lambda i, m=m: apart(0, i, m) for m in (0, 1, 60, 43200, 10 ** 7, MOST)]
        asked += [lambda i: place(i, LAST_MINUTE + 1, 0), lambda i: place(i, 0, FIRST_MINUTE - 1),
                  lambda i: row(i, 0, 0, 257), lambda i: row(i, LAST_MINUTE, 0, 2)]
        return asked

    def test_a_sky(self):
        self.check(SKY, 0)
        self.check(SKY, 2)

    def test_ties_and_ends_of_factors(self):
        for factors in ("", " factor 0.5 A", " factor -0.5 A", " factor 0.999999999999 Z", " factor -0.999999999999 Z"):
            self.check(f"angle A 45 0\nangle Z 0 0\nwave W A{factors} shift 3 A\n", 0)

    def test_of_two_the_argument_is_theirs_together(self):
        text = "angle A 11.25 5.625\nangle B 45 -22.5\nwave V A turn 90\nwave W - 3 B turn 180\nsum S V + W\nsum D V - W\n"
        for t in (0, 1, 4, -64, 2 ** 24, -2 ** 25):
            one, other, together, between = [told[1] for told in tell(text, *[place(k, t * 60, 0) for k in range(4)])]
            self.assertEqual(together, (one + other) % TURN)
            self.assertEqual(between, (one - other) % TURN)


class Compared(SkyCase):
    def test_with_a_reckoning(self):
        maker = Maker(6)
        waves, sums = 0, 0
        while waves < 250 or sums < 60:
            text = maker.text()
            if ask(sky(text)) != [[0]]:
                continue
            reckoned = Reckoned(text)
            many = len(reckoned.waves)
            waves += text.count("\nwave ")
            sums += text.count("\nsum ")
            for i in range(many):
                minutes = MINUTES + ((maker.chance.randint(-9999, 9999), maker.chance.randint(FIRST_MINUTE, LAST_MINUTE)),)
                j, m = maker.chance.randrange(many), maker.chance.choice((1, 60, 4000, 10 ** 6, MOST))
                calls = [place(i, t, b) for t, b in minutes] + [speed(i), row(i, -2, 77, 4), apart(i, j, m)]
                expected = [reckoned.place(i, t, b) for t, b in minutes]
                expected += [reckoned.speed(i), reckoned.row(i, -2, 77, 4), reckoned.apart(i, j, m)]
                self.assertEqual(tell(text, *calls), expected, (i, text))


class WhatIsKept(SkyCase):
    ASKED = [speed(0), place(0, 5, 6), row(0, 7, 8, 3), apart(0, 1, 60), speed(4), place(3, -9, 9)]

    def test_faults_and_refusals_leave_the_sky(self):
        before = tell(SKY, *self.ASKED)
        refused = [sky("wave"), sky("angle A 0 0\nwave W X\n"), speed(9), place(9, 0, 0), place(0, MOST, 0), row(0, 0, 0, 257),
                   row(9, 0, 0, 0), apart(0, 9, 0), name(9), find("A")]
        told = tell(SKY, *refused, *self.ASKED)
        self.assertEqual(told, [[-6, 1, 4], [-6, 3, 19], [-4], [-4], [-1], [-1], [-4], [-4], [-4], [-4]] + before)

    def test_a_right_text_takes_the_place(self):
        other = "angle A 90 360\nwave W A\n"
        told = ask(sky(SKY), *self.ASKED, sky(other), speed(0), place(0, 0, 0), row(0, 15, 0, 1), apart(0, 0, 1), speed(1))
        self.assertEqual(told[-5:], [[0, 1, 60], [0, TURN // 4, 2 ** 30], [0, 1, TURN // 2], [0], [-4]])

    def test_one_call_does_not_change_the_next(self):
        told = tell(SKY, *self.ASKED * 3)
        self.assertEqual(told, tell(SKY, *self.ASKED) * 3)
        self.assertEqual(tell(SKY, *self.ASKED[::-1]), told[:6][::-1])

    def test_what_is_handed_in_is_not_changed(self):
        calls = [number for call in [sky(SKY)] + self.ASKED for number in call]
        copy = list(calls)
        first = answers(calls)
        self.assertEqual(calls, copy)
        self.assertEqual(answers(speed(0) + place(0, 0, 0) + row(0, 0, 0, 1) + apart(0, 0, 0)), [1, -3] * 4)
        self.assertEqual(answers(calls), first)

    def test_answers_are_plain(self):
        told = answers([number for call in [speed(0), sky(SKY), *calls_of_all(3)] for number in call])
        self.assertIs(type(told), list)
        self.assertEqual([number for number in told if type(number) is not int], [])

    def test_as_one_list(self):
        calls = speed(0) + place(0, 0, 0) + row(0, 0, 0, 5) + apart(0, 0, 0) + sky("angle A 90 360\nwave W A\nwave V - A\n")
        calls += speed(1) + place(1, 30, 0) + row(0, 15, 0, 2) + row(0, 0, 0, 0) + apart(0, 1, 30) + apart(0, 1, 29)
        calls += speed(2) + place(0, MOST, 0) + row(0, 0, 0, 257) + apart(0, 2, 0) + SIZE
        self.assertEqual(answers(calls), [1, -3, 1, -3, 1, -3, 1, -3, 1, 0, 3, 0, -1, 60, 3, 0, TURN // 4, 2 ** 30,
                                          4, 0, 2, TURN // 2, TURN * 31 // 60, 2, 0, 0, 1, 1, 1, 0,
                                          1, -4, 1, -1, 1, -1, 1, -4, 3, 0, 1, 2])


def full_text():
    """Eight waves with 8 factors and 8 shifts of 8 terms each, and sums of all of them."""
    text = "".join(f"angle {letter} {37 * k - 300}.{k}01 {-99 * k + 800}.00{k}\n" for k, letter in enumerate("ABCDEFGH"))
    for k in range(8):
        terms = [" - ".join(f"{(k * j + n) % 15 + 1} {'ABCDEFGH'[(n + j) % 8]}" for n in range(8)) for j in range(17)]
        swings = "".join(f" factor {(-1) ** j * 0.12} {terms[j]}" for j in range(8))
        swings += "".join(f" shift {(-1) ** j * (100 + j)} {terms[8 + j]}" for j in range(8))
        text += f"wave W{k} - {terms[16]} turn 270{swings}\n"
    text += "sum S " + " + ".join(f"W{k}" for k in range(7)) + " - 5 W7\n"
    return text + "sum T - 5 W0 - " + " - ".join(f"W{k}" for k in range(1, 8)) + "\n"


class Largest(SkyCase):
    def test_places_of_full_sums(self):
        text = full_text()
        reckoned = Reckoned(text)
        for i in (0, 7, 8, 9):
            calls = [place(i, t, b) for t, b in MINUTES]
            self.assertEqual(tell(text, *calls, speed(i)), [reckoned.place(i, t, b) for t, b in MINUTES] + [reckoned.speed(i)])
        self.assertEqual(tell(text, row(8, LAST_MINUTE - 255, FIRST_MINUTE, 256)),
                         [reckoned.row(8, LAST_MINUTE - 255, FIRST_MINUTE, 256)])

    def test_400_calls(self):
        text = full_text()
        calls = [sky(text)] + [place(8 + k % 2, k * 5000000, -k * 5000000) for k in range(399)]
        self.assertLessEqual(sum(map(len, calls)), 16000)
        told = ask(*calls)
        self.assertEqual([len(each) for each in told], [1] + [3] * 399)
        self.assertEqual(told[1:4] + told[-1:], [ask(sky(text), call)[1] for call in calls[1:4] + calls[-1:]])

    def test_400_rows(self):
        text = full_text()
        calls = [sky(text)] + [row(8 + k % 2, k * 5000000, -k * 5000000, 256) for k in range(399)]
        self.assertLessEqual(sum(map(len, calls)), 16000)
        told = ask(*calls)
        self.assertEqual([each[:2] for each in told], [[0]] + [[0, 256]] * 399)
        for k in (1, 2, 399):
            self.assertEqual(told[k][2::85], [each[1] for each in tell(text, *[place(8 + (k - 1) % 2, (k - 1) * 5000000 + j,
                                                                       -(k - 1) * 5000000) for j in (0, 85, 170, 255)])])

    def test_400_others(self):
        text = full_text()
        told = tell(text, *[speed(k % 10) for k in range(199)], *[apart(k % 10, (k + 1) % 10, MOST) for k in range(200)])
        self.assertEqual(told[199:], [[1]] * 200)
        self.assertEqual(told[:189], told[10:199])
