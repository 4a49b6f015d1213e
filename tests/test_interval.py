import unittest

from tests.asking import ALTERED, INTERVAL, NOTES, REFUSED, SOUNDS, STEP, WALKED, ask, ask_all, note, spoiled


def between(one, other):
    return ask(INTERVAL, *note(one), *note(other))


def counted(one, other):
    """What the words say of the interval, word by word."""
    s = other[0] - one[0]
    t = SOUNDS[other] - SOUNDS[one]
    size_steps, size_semitones = (-s, -t) if s < 0 else (s, t)
    quality = size_semitones - WALKED[size_steps]
    left = size_steps % 7
    consonant = 0
    if (left == 0 or left == 4) and quality == 0:
        consonant = 2
    elif (left == 2 or left == 5) and -1 <= quality <= 0:
        consonant = 1
    return [0, s, t, quality, int(left == 0 or left == 3 or left == 4), consonant]


class Interval(unittest.TestCase):
    def test_the_documents_instance(self):
        self.assertEqual(ask(INTERVAL, 28, 0, 32, 0), [0, 4, 7, 0, 1, 2])

    def test_upwards_within_an_octave(self):
        self.assertEqual(between("C4", "C4"), [0, 0, 0, 0, 1, 2])
        self.assertEqual(between("C4", "D4"), [0, 1, 2, 0, 0, 0])
        self.assertEqual(between("E4", "F4"), [0, 1, 1, -1, 0, 0])
        self.assertEqual(between("C4", "E4"), [0, 2, 4, 0, 0, 1])
        self.assertEqual(between("D4", "F4"), [0, 2, 3, -1, 0, 1])
        self.assertEqual(between("C4", "F4"), [0, 3, 5, 0, 1, 0])
        self.assertEqual(between("F4", "B4"), [0, 3, 6, 1, 1, 0])
        self.assertEqual(between("B3", "F4"), [0, 4, 6, -1, 1, 0])
        self.assertEqual(between("C4", "A4"), [0, 5, 9, 0, 0, 1])
        self.assertEqual(between("E4", "C5"), [0, 5, 8, -1, 0, 1])
        self.assertEqual(between("C4", "B4"), [0, 6, 11, 0, 0, 0])
        self.assertEqual(between("C4", "C5"), [0, 7, 12, 0, 1, 2])

    def test_upwards_beyond_an_octave(self):
        self.assertEqual(between("C4", "D5"), [0, 8, 14, 0, 0, 0])
        self.assertEqual(between("A3", "C5"), [0, 9, 15, -1, 0, 1])
        self.assertEqual(between("C3", "G4"), [0, 11, 19, 0, 1, 2])
        self.assertEqual(between("C3", "C#5"), [0, 14, 25, 1, 1, 0])

    def test_downwards_is_told_by_its_size(self):
        self.assertEqual(between("E4", "C4"), [0, -2, -4, 0, 0, 1])
        self.assertEqual(between("F4", "D4"), [0, -2, -3, -1, 0, 1])
        self.assertEqual(between("G4", "C4"), [0, -4, -7, 0, 1, 2])
        self.assertEqual(between("F4", "C4"), [0, -3, -5, 0, 1, 0])
        self.assertEqual(between("C5", "C4"), [0, -7, -12, 0, 1, 2])
        self.assertEqual(between("D5", "C5"), [0, -1, -2, 0, 0, 0])
        self.assertEqual(between("E5", "C4"), [0, -9, -16, 0, 0, 1])
        self.assertEqual(between("G5", "C4"), [0, -11, -19, 0, 1, 2])
        self.assertEqual(between("Gb5", "C4"), [0, -11, -18, -1, 1, 0])

    def test_on_one_step_it_is_not_turned(self):
        self.assertEqual(between("C4", "Cb4"), [0, 0, -1, -1, 1, 0])
        self.assertEqual(between("Cx4", "Cbb4"), [0, 0, -4, -4, 1, 0])
        self.assertEqual(between("Cbb4", "Cx4"), [0, 0, 4, 4, 1, 0])

    def test_less_sound_on_a_higher_step_and_the_other_way(self):
        self.assertEqual(between("E#4", "Fb4"), [0, 1, -1, -3, 0, 0])
        self.assertEqual(between("Fb4", "E#4"), [0, -1, 1, -3, 0, 0])

    def test_thirds_and_sixths_are_consonant_in_two_qualities_alone(self):
        for start, ends in (("C4", ("Ebb4", "Eb4", "E4", "E#4")), ("C4", ("Abb4", "Ab4", "A4", "A#4"))):
            self.assertEqual([between(start, end)[5] for end in ends], [0, 1, 1, 0])
            self.assertEqual([between(start, end)[3] for end in ends], [-2, -1, 0, 1])

    def test_edges(self):
        self.assertEqual(ask(INTERVAL, 0, -2, 69, 2), [0, 69, 123, 4, 0, 0])
        self.assertEqual(ask(INTERVAL, 69, 2, 0, -2), [0, -69, -123, 4, 0, 0])
        self.assertEqual(ask(INTERVAL, 0, 2, 69, -2), [0, 69, 115, -4, 0, 0])

    def test_every_two_notes(self):
        pairs = [(one, other) for one in NOTES for other in NOTES]
        told = ask_all((INTERVAL, *one, *other) for one, other in pairs)
        for (one, other), answer in zip(pairs, told, strict=True):
            if answer != counted(one, other):
                self.assertEqual(answer, counted(one, other), (one, other))

    def test_refused(self):
        for start in ((INTERVAL, 28, 0, 32, 0), (INTERVAL, 0, -2, 69, 2), (INTERVAL, 69, 2, 0, -2)):
            for call in spoiled(start, (STEP, ALTERED, STEP, ALTERED)):
                self.assertEqual(ask(*call), REFUSED, call)


if __name__ == "__main__":
    unittest.main()
