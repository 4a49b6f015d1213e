import itertools
import unittest

from tests.asking import (FIFTHS, FIFTHS_OF_KEY, HUGE, NOTES, REFUSED, SOUND, SOUND_TOLD, SOUNDS, SPELL, ask, ask_all,
                          flat, note, notes, spoiled)

SOUNDING = {sound: [one for one in NOTES if SOUNDS[one] == sound] for sound in range(119)}
FIFTHS_OF_KEYS = range(-7, 8)
OCTAVE = range(48, 60)


def cost_of(k, row):
    places = [FIFTHS[one] for one in row]
    own = sum(abs(2 * place - (2 * k + 4)) for place in places)
    return own + sum(abs(2 * place - 2 * ahead) for ahead, place in zip(places, places[1:]))


def cheapest(k, sounds):
    """What the cheapest costs, and all that cost so, out of every row of notes that sounds so."""
    rows = list(itertools.product(*(SOUNDING[sound] for sound in sounds)))
    costs = [cost_of(k, row) for row in rows]
    least = min(costs)
    return least, [row for row, cost in zip(rows, costs, strict=True) if cost == least]


def searched(k, sounds):
    least, rows = cheapest(k, sounds)
    return [least, *flat(min(rows, key=lambda row: [d for d, a in row]))]


class Spell(unittest.TestCase):
    def check(self, asked):
        asked = list(asked)
        told = ask_all((SPELL, k, *sounds) for k, sounds in asked)
        for (k, sounds), answer in zip(asked, told, strict=True):
            wanted = searched(k, sounds)
            if answer != wanted:
                self.assertEqual(answer, wanted, (k, sounds))

    def test_the_documents_instance(self):
        self.assertEqual(ask(SPELL, 0, 48, 52, 55, 58), [38, 28, 0, 30, 0, 32, 0, 34, -1])

    def test_sharps_and_flats_by_the_key(self):
        self.assertEqual(ask(SPELL, -3, 48, 51, 55), [24, *notes("C4 Eb4 G4")])
        self.assertEqual(ask(SPELL, 4, 52, 56, 59), [24, *notes("E4 G#4 B4")])
        self.assertEqual(ask(SPELL, 7, 49), [4, *note("C#4")])
        self.assertEqual(ask(SPELL, -7, 49), [0, *note("Db4")])

    def test_what_goes_ahead_counts(self):
        self.assertEqual(ask(SPELL, 1, 56), [10, *note("G#4")])
        self.assertEqual(ask(SPELL, -1, 56), [10, *note("Ab4")])
        self.assertEqual(ask(SPELL, -1, 52, 56), [6 + 14 + 8, *notes("E4 G#4")])
        self.assertEqual(ask(SPELL, 1, 53, 56), [8 + 14 + 6, *notes("F4 Ab4")])

    def test_no_sound(self):
        for k in FIFTHS_OF_KEYS:
            self.assertEqual(ask(SPELL, k), [0])

    def test_every_one_sound_in_every_key(self):
        self.check((k, (sound,)) for k in FIFTHS_OF_KEYS for sound in range(119))

    def test_every_two_sounds_of_an_octave_in_every_key(self):
        self.check((k, sounds) for k in FIFTHS_OF_KEYS for sounds in itertools.product(OCTAVE, repeat=2))

    def test_every_three_sounds_of_an_octave(self):
        self.check((k, sounds) for k in (-7, 0, 3) for sounds in itertools.product(OCTAVE, repeat=3))

    def test_rows_at_the_lowest_and_the_highest_sounds(self):
        outermost = (0, 1, 2, 116, 117, 118)
        self.check((k, sounds) for k in (-7, -2, 4, 7) for sounds in itertools.product(outermost, repeat=3))

    def test_longer_rows_from_all_over(self):
        rows = [[(start * start + step * place * place + 7 * place) % 119 for place in range(length)]
                for length in (4, 5, 6) for start in range(7) for step in (5, 17, 31)]
        self.check((k, sounds) for sounds in rows for k in (-7, -4, 0, 2, 7))

    def test_six_sounds(self):
        self.assertEqual(ask(SPELL, 0, 48, 50, 52, 53, 55, 57), [18 + 26, *notes("C4 D4 E4 F4 G4 A4")])
        self.assertEqual(ask(SPELL, 7, 118, 118, 118, 118, 118, 118), [12, *notes("A#9 A#9 A#9 A#9 A#9 A#9")])
        self.check((k, (0, 118, 1, 117, 2, 116)) for k in FIFTHS_OF_KEYS)

    def test_the_lower_step_of_several_that_cost_the_same(self):
        self.assertEqual(ask(SPELL, 0, 56), [12, *note("G#4")])
        self.assertEqual(ask(SPELL, -1, 49), [12, *note("C#4")])

    def test_the_lower_step_and_not_the_lower_step_in_its_octave(self):
        self.assertEqual(ask(SPELL, 4, 48), [12, *note("B#3")])
        self.assertEqual(ask(SPELL, 4, 0), [12, *note("C0")])

    def test_the_lower_step_where_they_first_differ(self):
        self.assertEqual(ask(SPELL, -7, 48, 49, 55), [44, *notes("C4 Db4 G4")])
        self.assertEqual(ask(SPELL, -7, 48, 59, 48), [52, *notes("C4 Cb5 C4")])

    def test_rows_of_which_several_cost_the_same(self):
        asked = [(k, sounds) for k in (-7, -1, 0, 4) for sounds in itertools.product(OCTAVE, repeat=3)]
        several = [(k, sounds) for k, sounds in asked if len(cheapest(k, sounds)[1]) > 1]
        self.assertGreater(len(several), 200)
        self.check(several)

    def test_what_is_written_sounds_as_told(self):
        for k in FIFTHS_OF_KEYS:
            for sounds in ((0, 11, 12, 61, 118), (118, 54, 54, 3, 8, 0)):
                told = ask(SPELL, k, *sounds)[1:]
                written = list(zip(told[::2], told[1::2], strict=True))
                self.assertEqual([answer[1] for answer in ask_all((SOUND, *one) for one in written)], list(sounds))

    def test_edges_of_sounds(self):
        self.assertEqual(ask(SPELL, 0, 0), [4, 0, 0])
        self.assertEqual(ask(SPELL, 0, 118), [8, 69, -1])
        self.assertEqual(ask(SPELL, 0, -1), REFUSED)
        self.assertEqual(ask(SPELL, 0, 119), REFUSED)

    def test_refused(self):
        for sounds in ((), (48,), (0, 118), (48, 52, 55, 58), (0, 1, 2, 116, 117, 118)):
            for k in (-7, 0, 7):
                for call in spoiled((SPELL, k, *sounds), (FIFTHS_OF_KEY, *[SOUND_TOLD] * len(sounds))):
                    self.assertEqual(ask(*call), REFUSED, call)

    def test_too_many(self):
        for count in range(7, 19):
            self.assertEqual(ask(SPELL, 0, *[60] * count), REFUSED, count)
            self.assertEqual(ask(SPELL, 0, *[HUGE] * count), REFUSED, count)


if __name__ == "__main__":
    unittest.main()
