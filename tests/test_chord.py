import itertools
import unittest

from tests.asking import (ALTERED, CHORD, HUGE, KINDS, NO_CHORD, NOTES, REFUSED, STEP, ask, ask_all, flat, notes,
                          searched_chord, spoiled)

NAMES = [one for one in NOTES if one[0] < 7]
THREE = {0: [], 1: [6], 2: [6, 4]}
FOUR = {0: [7], 1: [6, 5], 2: [4, 3], 3: [2]}


def name_of(one):
    return (one[0] % 7, one[1])


def all_chords():
    """Root and kind of every chord, by its names from the root on."""
    chords = {}
    for root, kind in itertools.product(NAMES, KINDS):
        chord = searched_chord(root, kind)
        if None not in chord:
            chords[tuple(name_of(one) for one in chord)] = (root, kind)
    return chords


CHORDS = all_chords()
BY_NAMES = {frozenset(names): names for names in CHORDS}


def searched(some):
    """What is to be answered, by a look among every chord that there is."""
    names = BY_NAMES.get(frozenset(name_of(one) for one in some))
    if names is None:
        return NO_CHORD
    root, kind = CHORDS[names]
    turn = names.index(name_of(some[0]))
    return [*root, kind, turn, *(THREE if kind < 4 else FOUR)[turn]]


def in_octaves(names, octaves):
    return [(d + 7 * octave, a) for (d, a), octave in zip(names, octaves, strict=True)]


class Chord(unittest.TestCase):
    def check(self, rows):
        rows = list(rows)
        told = ask_all((CHORD, *flat(row)) for row in rows)
        for row, answer in zip(rows, told, strict=True):
            if answer != searched(row):
                self.assertEqual(answer, searched(row), row)

    def test_the_documents_instance(self):
        self.assertEqual(ask(CHORD, 30, 0, 32, 0, 35, 0), [0, 0, 0, 1, 6])

    def test_kinds_of_three_notes(self):
        self.assertEqual(ask(CHORD, *notes("C4 E4 G4")), [0, 0, 0, 0])
        self.assertEqual(ask(CHORD, *notes("A3 C4 E4")), [5, 0, 1, 0])
        self.assertEqual(ask(CHORD, *notes("B3 D4 F4")), [6, 0, 2, 0])
        self.assertEqual(ask(CHORD, *notes("C4 E4 G#4")), [0, 0, 3, 0])
        self.assertEqual(ask(CHORD, *notes("Eb4 G4 Bb4")), [2, -1, 0, 0])
        self.assertEqual(ask(CHORD, *notes("F#3 A3 C#4")), [3, 1, 1, 0])

    def test_kinds_of_four_notes(self):
        self.assertEqual(ask(CHORD, *notes("C4 E4 G4 B4")), [0, 0, 4, 0, 7])
        self.assertEqual(ask(CHORD, *notes("C4 E4 G4 Bb4")), [0, 0, 5, 0, 7])
        self.assertEqual(ask(CHORD, *notes("D4 F4 A4 C5")), [1, 0, 6, 0, 7])
        self.assertEqual(ask(CHORD, *notes("B3 D4 F4 A4")), [6, 0, 7, 0, 7])
        self.assertEqual(ask(CHORD, *notes("B3 D4 F4 Ab4")), [6, 0, 8, 0, 7])

    def test_turns_and_figures_of_three_notes(self):
        self.assertEqual(ask(CHORD, *notes("G3 D4 B4")), [4, 0, 0, 0])
        self.assertEqual(ask(CHORD, *notes("B3 D4 G4")), [4, 0, 0, 1, 6])
        self.assertEqual(ask(CHORD, *notes("D4 G4 B4")), [4, 0, 0, 2, 6, 4])

    def test_turns_and_figures_of_four_notes(self):
        self.assertEqual(ask(CHORD, *notes("G3 B3 D4 F4")), [4, 0, 5, 0, 7])
        self.assertEqual(ask(CHORD, *notes("B3 D4 F4 G4")), [4, 0, 5, 1, 6, 5])
        self.assertEqual(ask(CHORD, *notes("D4 F4 G4 B4")), [4, 0, 5, 2, 4, 3])
        self.assertEqual(ask(CHORD, *notes("F4 G4 B4 D5")), [4, 0, 5, 3, 2])

    def test_the_turn_is_by_the_first_told_and_not_by_the_lowest(self):
        self.assertEqual(ask(CHORD, *notes("E5 C4 G4")), [0, 0, 0, 1, 6])
        self.assertEqual(ask(CHORD, *notes("F7 G2 B2 D3")), [4, 0, 5, 3, 2])

    def test_chords_are_told_by_name_and_not_by_sound(self):
        self.assertEqual(ask(CHORD, *notes("C4 E4 Ab4")), [5, -1, 3, 1, 6])
        self.assertEqual(ask(CHORD, *notes("B#3 E4 G#4")), [2, 0, 3, 2, 6, 4])
        self.assertEqual(ask(CHORD, *notes("B3 D4 F4 G#4")), [4, 1, 8, 1, 6, 5])
        self.assertEqual(ask(CHORD, *notes("C4 D#4 G4")), NO_CHORD)
        self.assertEqual(ask(CHORD, *notes("C4 E4 G4 A#4")), NO_CHORD)

    def test_every_chord_in_any_order_and_several_octaves(self):
        for names in CHORDS:
            rows = []
            for octaves in ((4, 4, 4, 4), (9, 0, 5, 2), (0, 3, 3, 9)):
                rows.extend(itertools.permutations(in_octaves(names, octaves[:len(names)])))
            self.check(rows)

    def test_every_kind_has_roots_of_every_step(self):
        self.assertEqual({(root[0], kind) for root, kind in CHORDS.values()}, set(itertools.product(range(7), KINDS)))

    def test_the_same_note_or_name_more_than_once(self):
        self.assertEqual(ask(CHORD, *notes("C4 C4 E4 G4")), [0, 0, 0, 0])
        self.assertEqual(ask(CHORD, *notes("E3 C4 E4 G4 E5")), [0, 0, 0, 1, 6])
        for names in CHORDS:
            again = [(d + 14, a) for d, a in names]
            self.check(([*names, *again], [*again, *names], [*names, *names], [*names[1:], *again, names[-1]]))

    def test_eight_notes(self):
        self.assertEqual(ask(CHORD, *notes("F2 G3 B3 D4 F4 G4 B4 D5")), [4, 0, 5, 3, 2])
        self.assertEqual(ask(CHORD, *notes("C0 C1 C2 C3 C4 C5 E6 G7")), [0, 0, 0, 0])
        self.assertEqual(ask(CHORD, *notes("G9 C1 C2 C3 C4 C5 C6 E7")), [0, 0, 0, 2, 6, 4])
        self.assertEqual(ask(CHORD, *notes("C0 C1 C2 C3 C4 C5 E6 A7")), [5, 0, 1, 1, 6])
        self.assertEqual(ask(CHORD, *notes("C0 C1 C2 C3 C4 C5 E6 F7")), NO_CHORD)

    def test_every_count_of_notes(self):
        for count in range(3, 9):
            self.assertEqual(ask(CHORD, *notes("E5 C4 G4 C5 G2 E3 C6 E2")[:2 * count]), [0, 0, 0, 1, 6], count)

    def test_edges_of_notes(self):
        self.assertEqual(ask(CHORD, 0, 0, 2, 0, 67, 0), [0, 0, 0, 0])
        self.assertEqual(ask(CHORD, 69, 0, 1, 0, 3, 0), [6, 0, 2, 0])
        self.assertEqual(ask(CHORD, 0, -2, 2, -2, 4, -2), [0, -2, 0, 0])
        self.assertEqual(ask(CHORD, 0, 2, 2, 2, 4, 2), [0, 2, 0, 0])

    def test_too_few_names(self):
        for some in ("C4", "C4 C4", "C4 C5", "C4 E4", "C4 G4", "E4 G4 E5 G5", "C4 E4 B4", "C4 G4 Bb4"):
            self.assertEqual(ask(CHORD, *notes(some)), NO_CHORD, some)

    def test_too_many_names(self):
        for some in ("C4 E4 G4 C#5", "C4 E4 Eb4 G4", "C4 E4 G4 A4 D5", "C4 E4 G4 Bb4 D5", "C4 E4 G4 B4 Bb4"):
            self.assertEqual(ask(CHORD, *notes(some)), NO_CHORD, some)

    def test_other_names(self):
        for some in ("C4 F4 G4", "C4 D4 E4", "C4 E4 Gb4", "C4 Eb4 G#4", "C4 Eb4 G4 B4", "C4 E4 G#4 B4", "C4 Ebb4 Gb4"):
            self.assertEqual(ask(CHORD, *notes(some)), NO_CHORD, some)

    def test_every_one_two_and_three_names(self):
        for count in (1, 2, 3):
            self.check(itertools.combinations(NAMES, count))

    def test_every_four_names_altered_by_one_at_most(self):
        self.check(itertools.combinations([one for one in NAMES if abs(one[1]) < 2], 4))

    def test_refused(self):
        for some in ("C4", "C4 E4 G4", "C4 D4 E4 F4", "C4 E4 G4 Bb4 C5 E5 G5 Bb5"):
            numbers = notes(some)
            for call in spoiled((CHORD, *numbers), (STEP, ALTERED) * (len(numbers) // 2)):
                self.assertEqual(ask(*call), REFUSED, call)

    def test_a_name_alone_makes_no_note(self):
        self.assertEqual(ask(CHORD, 70, 0, 2, 0, 4, 0), REFUSED)
        self.assertEqual(ask(CHORD, -7, 0, 2, 0, 4, 0), REFUSED)
        self.assertEqual(ask(CHORD, 0, 0, 2, 0, 4, 0, 7 * 2 ** 50, 0), REFUSED)

    def test_too_many_or_too_few(self):
        self.assertEqual(ask(CHORD), REFUSED)
        self.assertEqual(ask(CHORD, *notes("C4 E4 G4 Bb4 C5 E5 G5 Bb5 C6")), REFUSED)
        self.assertEqual(ask(CHORD, *notes("C4 C4 C4 C4 C4 C4 C4 E4 G4")), REFUSED)
        self.assertEqual(ask(CHORD, *[HUGE] * 18), REFUSED)


if __name__ == "__main__":
    unittest.main()
