import unittest

from tests.asking import (ALTERED, DEGREE, FIFTHS_OF_KEY, KEYS, MODE, NOTES, REFUSED, STEP, ask, ask_all, first_degree,
                          note, own_alteration, spoiled)


class Degree(unittest.TestCase):
    def test_notes_of_the_key(self):
        self.assertEqual(ask(DEGREE, 0, 0, *note("C4")), [0, 0])
        self.assertEqual(ask(DEGREE, 0, 0, *note("B3")), [6, 0])
        self.assertEqual(ask(DEGREE, 1, 0, *note("F#4")), [6, 0])
        self.assertEqual(ask(DEGREE, -3, 0, *note("Ab2")), [3, 0])
        self.assertEqual(ask(DEGREE, 0, 5, *note("C4")), [2, 0])
        self.assertEqual(ask(DEGREE, -3, 5, *note("Bb7")), [6, 0])

    def test_notes_altered_against_the_key(self):
        self.assertEqual(ask(DEGREE, 0, 0, *note("F#4")), [3, 1])
        self.assertEqual(ask(DEGREE, 1, 0, *note("F4")), [6, -1])
        self.assertEqual(ask(DEGREE, -1, 0, *note("B4")), [3, 1])
        self.assertEqual(ask(DEGREE, 0, 5, *note("G#4")), [6, 1])
        self.assertEqual(ask(DEGREE, 0, 0, *note("Ebb4")), [2, -2])

    def test_edges(self):
        self.assertEqual(ask(DEGREE, 7, 0, 0, -2), [0, -3])
        self.assertEqual(ask(DEGREE, -7, 0, 0, 2), [0, 3])
        self.assertEqual(ask(DEGREE, 7, 6, 69, 2), [0, 1])
        self.assertEqual(ask(DEGREE, -7, 6, 69, -2), [0, -1])
        self.assertEqual(ask(DEGREE, 0, 6, 0, 0), [1, 0])

    def test_every_key_and_note(self):
        for k, mode in KEYS:
            first = first_degree(k, mode)
            own = [own_alteration(k, step) for step in range(7)]
            wanted = [[(d + 7 - first) % 7, a - own[d % 7]] for d, a in NOTES]
            self.assertEqual(ask_all((DEGREE, k, mode, d, a) for d, a in NOTES), wanted, (k, mode))

    def test_refused(self):
        for start in ((DEGREE, 0, 0, 28, 0), (DEGREE, -7, 6, 0, -2), (DEGREE, 7, 0, 69, 2)):
            for call in spoiled(start, (FIFTHS_OF_KEY, MODE, STEP, ALTERED)):
                self.assertEqual(ask(*call), REFUSED, call)


if __name__ == "__main__":
    unittest.main()
