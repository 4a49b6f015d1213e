import unittest

from tests.asking import ALTERED, FIFTHS, NOTES, REFUSED, SOUND, SOUNDS, STEP, ask, ask_all, note, spoiled


class Sound(unittest.TestCase):
    def test_the_documents_instance(self):
        self.assertEqual(ask(SOUND, 28, 0), [0, 48, 0])

    def test_white_keys_of_an_octave(self):
        told = [ask(SOUND, *note(letter + "4")) for letter in "CDEFGAB"]
        self.assertEqual([one[1] for one in told], [48, 50, 52, 53, 55, 57, 59])
        self.assertEqual([one[2] for one in told], [0, 2, 4, -1, 1, 3, 5])

    def test_altered(self):
        self.assertEqual(ask(SOUND, *note("F#3")), [0, 42, 6])
        self.assertEqual(ask(SOUND, *note("Bb5")), [0, 70, -2])
        self.assertEqual(ask(SOUND, *note("Gx2")), [0, 33, 15])
        self.assertEqual(ask(SOUND, *note("Ebb4")), [0, 50, -10])

    def test_edges(self):
        self.assertEqual(ask(SOUND, 0, -2), [0, -2, -14])
        self.assertEqual(ask(SOUND, 0, 2), [0, 2, 14])
        self.assertEqual(ask(SOUND, 69, -2), [0, 117, -9])
        self.assertEqual(ask(SOUND, 69, 2), [0, 121, 19])

    def test_every_note(self):
        told = ask_all((SOUND, d, a) for d, a in NOTES)
        self.assertEqual(told, [[0, SOUNDS[one], FIFTHS[one]] for one in NOTES])

    def test_refused(self):
        for start in ((SOUND, 28, 0), (SOUND, 0, -2), (SOUND, 69, 2)):
            for call in spoiled(start, (STEP, ALTERED)):
                self.assertEqual(ask(*call), REFUSED, call)


if __name__ == "__main__":
    unittest.main()
