"""B1: many texts, made from right ones by small changes, judged a second way and compared.

The changes are drawn from a row of numbers that is the same at every run.
"""

from tests.helpers import PRINT, SIZE, Machine, Maker, SkyCase, ask, later_fault, name, printed, sky


class Compared(SkyCase):
    def setUp(self):
        self.machine = Machine()
        self.told = {}

    def compare(self, text):
        place = self.machine.fault_place(text)
        if place is not None:
            expected = [-6, 1, place]
        else:
            later = later_fault(text)
            expected = [0] if later is None else [-6, later[1], later[0]]
        self.assertEqual(ask(sky(text))[0], expected, text)
        kind = expected[1] if expected != [0] else 0
        self.told[kind] = self.told.get(kind, 0) + 1
        return expected == [0]

    def check_printed(self, text):
        once = printed(text)
        self.assertTrue(self.compare(once))
        self.assertEqual(printed(once), once)
        asked = [SIZE] + [name(k) for k in range(8)]
        self.assertEqual(ask(sky(text), *asked), ask(sky(once), *asked))
        self.assertEqual(ask(sky(text), PRINT), ask(sky(once), PRINT))

    def test_texts_and_their_changes(self):
        maker = Maker(1)
        for _ in range(400):
            text = maker.text()
            if self.compare(text):
                self.check_printed(text)
            for _ in range(6):
                self.compare(maker.changed(text))
        for kind in (0, 1, 2, 3, 5):
            self.assertGreater(self.told.get(kind, 0), 10, self.told)

    def test_faults_of_full_skies(self):
        maker = Maker(2)
        for _ in range(10):
            lines = [f"angle a{k} 0 0\n" for k in range(maker.chance.randint(15, 18))]
            lines += [f"wave w{k} a1\n" for k in range(maker.chance.randint(126, 130))]
            self.compare("".join(lines))
            maker.chance.shuffle(lines)
            self.compare("angle a1 0 0\n".join(["", "".join(lines).replace("angle a1 0 0\n", "")]))
        self.assertGreater(self.told.get(4, 0), 5, self.told)
