import itertools
import unittest

from tests.asking import (ABOVE, ALTERED, HUGE, INTERVAL, MOVE, NO_NOTE, NOTES, REFUSED, SEMITONES_ABOVE, STEP,
                          STEPS_ABOVE, ask, ask_all, flat, note, notes, searched_above, spoiled)

EIGHT = "C4 Eb3 F#5 G4 Bb2 C4 A4 D6"
FAR = ((0, 0), (1, 2), (1, 1), (4, 7), (-2, -3), (-4, -7), (7, 12), (-14, -24), (0, 1), (0, -1), (3, 6), (-1, 0))


def searched(s, t, some):
    moved = [searched_above(one, s, t) for one in some]
    if None in moved:
        return NO_NOTE
    return [len(moved), *flat(moved)]


class Move(unittest.TestCase):
    def test_no_note_at_all(self):
        for s, t in itertools.product((-70, 0, 3, 70), (-200, 0, 5, 200)):
            self.assertEqual(ask(MOVE, s, t), [0])

    def test_upwards(self):
        self.assertEqual(ask(MOVE, 4, 7, *notes("C4 E4 G4 Bb4")), [4, *notes("G4 B4 D5 F5")])
        self.assertEqual(ask(MOVE, 1, 2, *notes("E4 F4 G4")), [3, *notes("F#4 G4 A4")])
        self.assertEqual(ask(MOVE, 0, 1, *notes("Cb4 C4 C#4")), [3, *notes("C4 C#4 Cx4")])

    def test_downwards(self):
        self.assertEqual(ask(MOVE, -2, -3, *notes("C4 E4 G4")), [3, *notes("A3 C#4 E4")])
        self.assertEqual(ask(MOVE, -7, -12, *notes("C4 F#4")), [2, *notes("C3 F#3")])
        self.assertEqual(ask(MOVE, -1, 0, *notes("F4 C4")), [2, *notes("E#4 B#3")])

    def test_one_note(self):
        self.assertEqual(ask(MOVE, 69, 119, 0, 0), [1, 69, 0])
        self.assertEqual(ask(MOVE, -69, -119, 69, 0), [1, 0, 0])
        self.assertEqual(ask(MOVE, 0, 4, 28, -2), [1, 28, 2])
        self.assertEqual(ask(MOVE, 0, -4, 28, 2), [1, 28, -2])

    def test_eight_notes(self):
        self.assertEqual(ask(MOVE, 2, 3, *notes(EIGHT)), [8, *notes("Eb4 Gb3 A5 Bb4 Db3 Eb4 C5 F6")])
        self.assertEqual(ask(MOVE, -2, -4, *notes(EIGHT)), [8, *notes("Ab3 Cb3 D5 Eb4 Gb2 Ab3 F4 Bb5")])

    def test_the_order_and_what_is_told_again_are_kept(self):
        self.assertEqual(ask(MOVE, 7, 12, *notes("G4 C4 G4 G4")), [4, *notes("G5 C5 G5 G5")])

    def test_every_note_moved(self):
        for s, t in FAR:
            told = ask_all((MOVE, s, t, *one, 28, 0) for one in NOTES)
            self.assertEqual(told, [searched(s, t, (one, (28, 0))) for one in NOTES], (s, t))

    def test_each_is_what_above_answers(self):
        for start in ((0, -2), (31, 1), (69, 2)):
            far = [(s, t) for s in range(-70, 71, 3) for t in range(-200, 201, 5)]
            alone = ask_all((ABOVE, *start, s, t) for s, t in far)
            moved = ask_all((MOVE, s, t, *start) for s, t in far)
            self.assertEqual(moved, [one if one == NO_NOTE else [1, *one[1:]] for one in alone])

    def test_moved_notes_lie_as_they_did(self):
        numbers = notes(EIGHT)
        for s, t in FAR:
            told = ask(MOVE, s, t, *numbers)
            self.assertEqual(told[0], 8, (s, t))
            for one, other in itertools.product(range(0, 16, 2), repeat=2):
                before = ask(INTERVAL, *numbers[one:one + 2], *numbers[other:other + 2])
                after = ask(INTERVAL, *told[1 + one:3 + one], *told[1 + other:3 + other])
                self.assertEqual(after, before, (s, t, one, other))

    def test_no_note_wherever_it_stands(self):
        for wrong, s, t in (((69, 0), 1, 2), ((0, 0), -1, -2), ((28, 2), 0, 1), ((28, -2), 0, -1)):
            for count in range(1, 9):
                some = [note("D4")] * count
                self.assertEqual(ask(MOVE, s, t, *flat(some))[0], count)
                for at in range(count):
                    row = some[:at] + [wrong] + some[at + 1:]
                    self.assertEqual(ask(MOVE, s, t, *flat(row)), NO_NOTE, (row, s, t))

    def test_edges_of_steps_and_semitones_are_no_refusal(self):
        for s, t in ((-70, 0), (70, 0), (0, -200), (0, 200), (-70, -200), (70, 200)):
            self.assertEqual(ask(MOVE, s, t, 28, 0), NO_NOTE)

    def test_refused(self):
        for some in ("", "C4", "C4 E4 G4", EIGHT):
            numbers = notes(some)
            ranges = (STEPS_ABOVE, SEMITONES_ABOVE) + (STEP, ALTERED) * (len(numbers) // 2)
            for s, t in ((0, 0), (4, 7), (70, 200), (-70, -200)):
                for call in spoiled((MOVE, s, t, *numbers), ranges):
                    self.assertEqual(ask(*call), REFUSED, call)

    def test_refused_ahead_of_no_note(self):
        self.assertEqual(ask(MOVE, 0, 1, 28, 2, 30, 0), NO_NOTE)
        self.assertEqual(ask(MOVE, 0, 1, 28, 2, 30, 3), REFUSED)
        self.assertEqual(ask(MOVE, 0, 1, 28, 2, 70, 0), REFUSED)
        self.assertEqual(ask(MOVE, 0, 201, 28, 2), REFUSED)
        self.assertEqual(ask(MOVE, 71, 1, 28, 2), REFUSED)

    def test_refused_though_what_is_reached_would_be_a_note(self):
        self.assertEqual(ask(MOVE, -1, -1, 70, 0), REFUSED)
        self.assertEqual(ask(MOVE, 1, 1, -1, 0), REFUSED)
        self.assertEqual(ask(MOVE, 0, -1, 28, 3), REFUSED)
        self.assertEqual(ask(MOVE, -HUGE, 0, HUGE, 0), REFUSED)

    def test_too_many(self):
        self.assertEqual(ask(MOVE, 0, 0, *notes(EIGHT), 28, 0), REFUSED)


if __name__ == "__main__":
    unittest.main()
