import unittest

from tests.asking import (ALTERED, BUILD, CHORD, HUGE, KIND, KINDS, NO_NOTE, NOTES, REFUSED, STEP, TURN_OF_FOUR,
                          TURN_OF_THREE, TURNED_KINDS, ask, ask_all, flat, note, notes, searched_chord, spoiled)

EVERY = [(root, kind, turn) for root in NOTES for kind, turn in TURNED_KINDS]


def searched(root, kind, turn):
    chord = searched_chord(root, kind)
    lifted = [one and (one[0] + 7, one[1]) for one in chord[:turn]]
    turned = chord[turn:] + lifted
    if not all(one in NOTES for one in turned):
        return NO_NOTE
    return [len(turned), *flat(turned)]


def ask_every():
    """What build answers for every root, kind and turn."""
    told = ask_all((BUILD, *root, kind, turn) for root, kind, turn in EVERY)
    return list(zip(EVERY, told, strict=True))


class Build(unittest.TestCase):
    def test_the_documents_instance(self):
        self.assertEqual(ask(BUILD, 28, 0, 5, 1), [4, 30, 0, 32, 0, 34, -1, 35, 0])

    def test_kinds(self):
        wanted = {
            0: "D4 F#4 A4", 1: "D4 F4 A4", 2: "D4 F4 Ab4", 3: "D4 F#4 A#4", 4: "D4 F#4 A4 C#5", 5: "D4 F#4 A4 C5",
            6: "D4 F4 A4 C5", 7: "D4 F4 Ab4 C5", 8: "D4 F4 Ab4 Cb5",
        }
        self.assertEqual(list(wanted), list(KINDS))
        for kind, names in wanted.items():
            self.assertEqual(ask(BUILD, *note("D4"), kind, 0), [len(names.split()), *notes(names)])

    def test_turns(self):
        self.assertEqual(ask(BUILD, *note("Bb3"), 0, 0), [3, *notes("Bb3 D4 F4")])
        self.assertEqual(ask(BUILD, *note("Bb3"), 0, 1), [3, *notes("D4 F4 Bb4")])
        self.assertEqual(ask(BUILD, *note("Bb3"), 0, 2), [3, *notes("F4 Bb4 D5")])
        self.assertEqual(ask(BUILD, *note("G#3"), 8, 1), [4, *notes("B3 D4 F4 G#4")])
        self.assertEqual(ask(BUILD, *note("G#3"), 8, 2), [4, *notes("D4 F4 G#4 B4")])
        self.assertEqual(ask(BUILD, *note("G#3"), 8, 3), [4, *notes("F4 G#4 B4 D5")])

    def test_every_root_kind_and_turn(self):
        wanted = [searched(*asked) for asked in EVERY]
        for (asked, answer), right in zip(ask_every(), wanted, strict=True):
            if answer != right:
                self.assertEqual(answer, right, asked)
        self.assertIn(NO_NOTE, wanted)

    def test_from_the_lowest_on(self):
        for asked, answer in ask_every():
            steps = answer[1::2]
            self.assertEqual(steps, sorted(steps), asked)

    def test_what_is_built_is_told_as_that_chord(self):
        built = [(asked, answer) for asked, answer in ask_every() if answer != NO_NOTE]
        told = ask_all((CHORD, *answer[1:]) for asked, answer in built)
        for (((d, a), kind, turn), answer), chord in zip(built, told, strict=True):
            if chord[:4] != [d % 7, a, kind, turn]:
                self.assertEqual(chord[:4], [d % 7, a, kind, turn], answer)

    def test_no_note_by_its_step(self):
        self.assertEqual(ask(BUILD, *note("G9"), 1, 0), NO_NOTE)
        self.assertEqual(ask(BUILD, *note("F9"), 1, 0), NO_NOTE)
        self.assertEqual(ask(BUILD, *note("E9"), 1, 0), [3, *notes("E9 G9 B9")])
        self.assertEqual(ask(BUILD, *note("E9"), 1, 1), NO_NOTE)
        self.assertEqual(ask(BUILD, *note("B8"), 2, 1), [3, *notes("D9 F9 B9")])
        self.assertEqual(ask(BUILD, *note("B8"), 2, 2), NO_NOTE)
        self.assertEqual(ask(BUILD, *note("C9"), 4, 0), [4, *notes("C9 E9 G9 B9")])
        self.assertEqual(ask(BUILD, *note("D9"), 6, 0), NO_NOTE)
        self.assertEqual(ask(BUILD, *note("E8"), 6, 3), [4, *notes("D9 E9 G9 B9")])
        self.assertEqual(ask(BUILD, *note("F8"), 4, 3), NO_NOTE)
        self.assertEqual(ask(BUILD, 69, 0, 0, 0), NO_NOTE)
        self.assertEqual(ask(BUILD, 0, 0, 0, 2), [3, *notes("G0 C1 E1")])

    def test_no_note_by_how_it_is_altered(self):
        self.assertEqual(ask(BUILD, *note("Ex4"), 0, 0), NO_NOTE)
        self.assertEqual(ask(BUILD, *note("Ex4"), 1, 0), [3, *notes("Ex4 Gx4 Bx4")])
        self.assertEqual(ask(BUILD, *note("Cx4"), 3, 0), NO_NOTE)
        self.assertEqual(ask(BUILD, *note("Fbb4"), 1, 0), NO_NOTE)
        self.assertEqual(ask(BUILD, *note("Fbb4"), 4, 0), [4, *notes("Fbb4 Abb4 Cbb5 Ebb5")])
        self.assertEqual(ask(BUILD, *note("Fbb4"), 5, 0), NO_NOTE)
        self.assertEqual(ask(BUILD, *note("Cb4"), 8, 3), NO_NOTE)

    def test_edges_of_kinds_and_turns(self):
        for kind in KINDS:
            last = 2 if kind < 4 else 3
            self.assertEqual(ask(BUILD, 28, 0, kind, last)[0], last + 1)
            self.assertEqual(ask(BUILD, 28, 0, kind, last + 1), REFUSED)
            self.assertEqual(ask(BUILD, 28, 0, kind, 0)[0], last + 1)
            self.assertEqual(ask(BUILD, 28, 0, kind, -1), REFUSED)

    def test_refused(self):
        for root in ((28, 0), (0, -2), (69, 2)):
            for kind, turn in TURNED_KINDS:
                turns = TURN_OF_THREE if kind < 4 else TURN_OF_FOUR
                for call in spoiled((BUILD, *root, kind, turn), (STEP, ALTERED, KIND, turns)):
                    self.assertEqual(ask(*call), REFUSED, call)

    def test_refused_ahead_of_no_note(self):
        self.assertEqual(ask(BUILD, 69, 2, 0, 2), NO_NOTE)
        self.assertEqual(ask(BUILD, 69, 2, 0, 3), REFUSED)
        self.assertEqual(ask(BUILD, 69, 2, 9, 0), REFUSED)
        self.assertEqual(ask(BUILD, 69, 3, 0, 2), REFUSED)
        self.assertEqual(ask(BUILD, 70, 2, 0, 2), REFUSED)

    def test_huge(self):
        self.assertEqual(ask(BUILD, HUGE, HUGE, HUGE, HUGE), REFUSED)
        self.assertEqual(ask(BUILD, 28, 0, -HUGE, -HUGE), REFUSED)


if __name__ == "__main__":
    unittest.main()
