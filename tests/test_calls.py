"""B2 and the interface: the calls, their refusals, and what an object keeps."""

from tests.helpers import PRINT, SIZE, SkyCase, ask, bytes_answer, codes, find, name, sky
from tideskies.skies import answers

ANGLES = "angle A 0 1\nangle Bee 0 2\n"
MIXED = ANGLES + "wave W A\nsum S W\nangle C 0 3\nwave turn C - A\nsum Seven77 W + turn\n"
FAULTS = (("angle", [-6, 1, 5]), ("angle A 0 1\nangle A 0 1\n", [-6, 2, 18]), ("wave W A\n", [-6, 3, 7]),
          ("".join(f"angle a{k} 0 0\n" for k in range(17)), [-6, 4, 10 * 13 + 6 * 14 + 6]),
          ("angle A 0 1\nwave W A factor 1 A\n", [-6, 5, 17]))


class SizeNameFind(SkyCase):
    def test_on_the_empty_sky(self):
        self.assertEqual(ask(sky(""), SIZE, name(0), name(1), find(""), find("A")),
                         [[0], [0, 0, 0], [-4], [-4], [-4], [-4]])

    def test_on_angles_only(self):
        self.assertEqual(ask(sky(ANGLES), SIZE, name(0), name(1), find("A"), find("Bee"), find("")),
                         [[0], [0, 2, 0], [-4], [-4], [-4], [-4], [-4]])

    def test_size(self):
        self.assertEqual(ask(sky(MIXED), SIZE), [[0], [0, 3, 4]])
        self.assertEqual(ask(sky(ANGLES + "wave W A\n"), SIZE), [[0], [0, 2, 1]])

    def test_names_are_found_where_they_stand(self):
        for number, told in enumerate(("W", "S", "turn", "Seven77")):
            self.assertEqual(ask(sky(MIXED), name(number), find(told)), [[0], bytes_answer(told), [number]])

    def test_numbers_that_are_too_large(self):
        for number in (4, 5, 128, 10 ** 18):
            self.assertEqual(ask(sky(MIXED), name(number)), [[0], [-4]])

    def test_names_that_are_not_there(self):
        for wrong in ("", "A", "Bee", "C", "w", "WW", "Seven7", "Seven778", "tur", "turn ", " turn", "X", "W\n",
                      "\x00", "\xff", "wave W", "W" * 1000):
            self.assertEqual(ask(sky(MIXED), find(wrong)), [[0], [-4]], wrong)

    def test_all_128(self):
        text = ANGLES + "".join(f"wave w{k} A\n" if k % 3 < 2 else f"sum w{k} w{k - 1}\n" for k in range(128))
        told = ask(sky(text), SIZE, *[name(k) for k in range(129)])
        self.assertEqual(told[1], [0, 2, 128])
        self.assertEqual(told[2:], [bytes_answer(f"w{k}") for k in range(128)] + [[-4]])
        told = ask(sky(text), *[find(f"w{k}") for k in range(129)])
        self.assertEqual(told[1:], [[k] for k in range(128)] + [[-4]])


class WithoutSky(SkyCase):
    def test_each_call(self):
        for call in (PRINT, SIZE, name(0), name(10 ** 18), find(""), find("W"), find("W" * 1000)):
            self.assertEqual(ask(call), [[-3]])
            self.assertEqual(ask(call, sky(MIXED), SIZE), [[-3], [0], [0, 3, 4]])

    def test_after_faults_only(self):
        for text, fault in FAULTS:
            self.assertEqual(ask(sky(text), PRINT, SIZE, name(0), find("W")), [fault, [-3], [-3], [-3], [-3]])


class WhatIsKept(SkyCase):
    def test_a_fault_leaves_the_sky(self):
        asked = [PRINT, SIZE, name(0), name(3), find("S"), find("A")]
        before = ask(sky(MIXED), *asked)
        for text, fault in FAULTS:
            self.assertEqual(ask(sky(MIXED), sky(text), *asked), [[0], fault] + before[1:])

    def test_a_right_text_takes_its_place(self):
        other = "angle W 0 1\nwave A W\n"
        asked = [PRINT, SIZE, name(0), name(1), find("A"), find("W")]
        told = [bytes_answer(other), [0, 1, 1], bytes_answer("A"), [-4], [0], [-4]]
        self.assertEqual(ask(sky(MIXED), sky(other), *asked), [[0], [0]] + told)
        self.assertEqual(ask(sky("wave"), sky(other), *asked), [[-6, 1, 4], [0]] + told)
        self.assertEqual(ask(sky(MIXED), sky(""), SIZE, name(0), find("W")), [[0], [0], [0, 0, 0], [-4], [-4]])

    def test_a_refusal_leaves_the_sky(self):
        self.assertEqual(ask(sky(MIXED), name(4), find("A"), PRINT), [[0], [-4], [-4], bytes_answer(MIXED)])

    def test_one_sky_after_another(self):
        self.assertEqual(ask(sky(ANGLES), sky(ANGLES), SIZE, sky(MIXED), SIZE),
                         [[0], [0], [0, 2, 0], [0], [0, 3, 4]])


class Answers(SkyCase):
    def test_as_one_list(self):
        text = "angle A 0 1\nwave W 1 A\n"
        told = "angle A 0 1\nwave W A\n"
        calls = SIZE + sky("wave") + sky(text) + PRINT + SIZE + name(0) + name(1) + find("W") + find("A")
        expected = [1, -3, 3, -6, 1, 4, 1, 0, 2 + len(told), 0, len(told)] + codes(told)
        expected += [3, 0, 1, 1, 3, 0, 1, ord("W"), 1, -4, 1, 0, 1, -4]
        self.assertEqual(answers(calls), expected)

    def test_what_is_handed_in_is_not_changed(self):
        calls = sky(MIXED) + PRINT + sky("wave") + name(0) + find("S") + SIZE
        copy = list(calls)
        answers(calls)
        self.assertEqual(calls, copy)

    def test_nothing_is_kept_between_times(self):
        calls = SIZE + sky(MIXED) + PRINT + SIZE + name(0) + find("S")
        first = answers(calls)
        self.assertEqual(answers(SIZE), [1, -3])
        self.assertEqual(answers(calls), first)
        first.clear()
        self.assertEqual(answers(calls)[:2], [1, -3])

    def test_answers_are_plain(self):
        told = answers(SIZE + sky(MIXED) + PRINT + SIZE + name(0) + find("S") + sky("wave"))
        self.assertIs(type(told), list)
        self.assertEqual([number for number in told if type(number) is not int], [])

    def test_texts_that_look_like_calls(self):
        self.assertEqual(ask([0, 3, 1, 1, 1], [4, 2, 0, 0], [2], [0, 0], [4, 3, 2, 2, 2], [2]),
                         [[-6, 1, 0], [-3], [-3], [0], [-4], [0, 0, 0]])


def largest_text():
    """A right text of 15800 bytes: 16 angles, and 128 waves and sums."""
    text = "".join(f"angle Angle{k:02d} 000.000000000000 -00{k % 10}.500000000000\n" for k in range(16))
    for k in range(96):
        own = " + ".join(f"{1 + (k + j) % 15} Angle{(k + j) % 16:02d}" for j in range(4))
        text += f"wave Wave{k:03d} - {own} turn 270 factor 0.{k:03d} Angle00 shift 1.0 1 Angle15 shift 1.0 Angle01\n"
    for k in range(32):
        text += f"sum Sum{k:03d} Wave{k:03d} - 2 Wave{k + 1:03d} + Wave{k + 2:03d}\n"
    while len(text) < 15800:
        longer = min(15800 - len(text), 11)
        text = text.replace(" 1.0 ", " 1.0" + "0" * longer + " ", 1)
    return text


class Largest(SkyCase):
    def test_text_of_15800(self):
        text = largest_text()
        self.assertEqual(len(text), 15800)
        told = ask(sky(text), SIZE, name(127), find("Sum031"), PRINT)
        self.assertEqual(told[:4], [[0], [0, 16, 128], bytes_answer("Sum031"), [127]])
        again = bytes(told[4][2:]).decode()
        self.assertEqual(told[4][:2], [0, len(again)])
        self.assertEqual(ask(sky(again), SIZE, PRINT), [[0], [0, 16, 128], told[4]])

    def test_faults_at_the_end_of_15800(self):
        text = largest_text()
        self.assertEqual(ask(sky(text[:-1] + "?")), [[-6, 1, 15799]])
        self.assertEqual(ask(sky(text[:-1] + "x")), [[-6, 1, 15799]])
        self.assertEqual(ask(sky(text[:-2] + "?\n")), [[-6, 1, 15798]])
        self.assertEqual(ask(sky(text[:-2] + "x\n")), [[-6, 3, 15800 - len("Wave033\n")]])

    def test_many_short_lines(self):
        text = "angle A 0 0\n" * 1316 + "angle A"
        self.assertEqual(len(text), 15799)
        self.assertEqual(ask(sky(text)), [[-6, 1, 15799]])
        self.assertEqual(ask(sky(text[:-7])), [[-6, 2, 18]])
        self.assertEqual(ask([0, 15800] + [10] * 15800), [[-6, 1, 0]])
        self.assertEqual(ask([0, 15800] + [97] * 15800), [[-6, 1, 1]])

    def test_name_of_1000(self):
        for wrong in ("W" * 1000, "W" + "\x00" * 999, "\xff" * 1000):
            self.assertEqual(ask(sky(MIXED), find(wrong)), [[0], [-4]])
            self.assertEqual(ask(find(wrong)), [[-3]])

    def test_400_calls(self):
        self.assertEqual(answers(SIZE * 400), [1, -3] * 400)
        self.assertEqual(answers(sky("") * 400), [1, 0] * 400)
        calls = [sky(MIXED)] + [SIZE, PRINT, name(1)] * 133
        self.assertEqual(ask(*calls), [[0]] + [[0, 3, 4], bytes_answer(MIXED), bytes_answer("S")] * 133)

    def test_400_calls_of_16000_numbers(self):
        text = largest_text().partition("sum Sum026 ")[0]
        calls = [sky(text)] + [PRINT] * 397
        calls += [name(121), find("W" * (16000 - sum(map(len, calls)) - len(name(121)) - len(find(""))))]
        self.assertEqual((len(calls), sum(map(len, calls))), (400, 16000))
        told = ask(*calls)
        self.assertEqual(told[:1] + told[-2:], [[0], bytes_answer("Sum025"), [-4]])
        self.assertEqual(told[2:398], [told[1]] * 396)
