import unittest

from tests.asking import (ABOVE, ALTERED, HUGE, INTERVAL, NO_NOTE, NOTES, REFUSED, SEMITONES_ABOVE, STEP, STEPS_ABOVE,
                          ask, ask_all, note, searched_above, spoiled)


def searched(d, a, s, t):
    found = searched_above((d, a), s, t)
    return NO_NOTE if found is None else [0, *found]


class Above(unittest.TestCase):
    def test_the_documents_instance(self):
        self.assertEqual(ask(ABOVE, 28, 2, 0, 1), NO_NOTE)

    def test_upwards_and_downwards(self):
        self.assertEqual(ask(ABOVE, *note("C4"), 2, 4), [0, *note("E4")])
        self.assertEqual(ask(ABOVE, *note("C4"), 2, 3), [0, *note("Eb4")])
        self.assertEqual(ask(ABOVE, *note("B3"), 4, 7), [0, *note("F#4")])
        self.assertEqual(ask(ABOVE, *note("Bb3"), 4, 7), [0, *note("F4")])
        self.assertEqual(ask(ABOVE, *note("C4"), -4, -7), [0, *note("F3")])
        self.assertEqual(ask(ABOVE, *note("C4"), -2, -4), [0, *note("Ab3")])
        self.assertEqual(ask(ABOVE, *note("G#4"), 7, 12), [0, *note("G#5")])
        self.assertEqual(ask(ABOVE, *note("E4"), 0, -1), [0, *note("Eb4")])
        self.assertEqual(ask(ABOVE, *note("E4"), 1, 0), [0, *note("Fb4")])

    def test_no_note_by_its_step(self):
        self.assertEqual(ask(ABOVE, 69, 0, 0, 0), [0, 69, 0])
        self.assertEqual(ask(ABOVE, 69, 0, 1, 1), NO_NOTE)
        self.assertEqual(ask(ABOVE, 0, 0, 69, 119), [0, 69, 0])
        self.assertEqual(ask(ABOVE, 0, 0, 70, 120), NO_NOTE)
        self.assertEqual(ask(ABOVE, 0, 0, 0, 0), [0, 0, 0])
        self.assertEqual(ask(ABOVE, 0, 0, -1, -1), NO_NOTE)
        self.assertEqual(ask(ABOVE, 69, 0, -69, -119), [0, 0, 0])
        self.assertEqual(ask(ABOVE, 69, 0, -70, -120), NO_NOTE)

    def test_no_note_by_how_it_is_altered(self):
        for t, told in ((-3, NO_NOTE), (-2, [0, 28, -2]), (2, [0, 28, 2]), (3, NO_NOTE)):
            self.assertEqual(ask(ABOVE, 28, 0, 0, t), told)
        for t, told in ((4, NO_NOTE), (5, [0, 32, -2]), (9, [0, 32, 2]), (10, NO_NOTE)):
            self.assertEqual(ask(ABOVE, 28, 0, 4, t), told)

    def test_edges_of_steps_and_semitones_are_no_refusal(self):
        for s, t in ((-70, 0), (70, 0), (0, -200), (0, 200), (-70, -200), (70, 200)):
            self.assertEqual(ask(ABOVE, 28, 0, s, t), NO_NOTE)

    def test_what_lies_between_put_on_the_one_is_the_other(self):
        pairs = [(one, other) for one in NOTES for other in NOTES]
        intervals = ask_all((INTERVAL, *one, *other) for one, other in pairs)
        told = ask_all((ABOVE, *one, *between[1:3]) for (one, other), between in zip(pairs, intervals, strict=True))
        for (one, other), answer in zip(pairs, told, strict=True):
            if answer != [0, *other]:
                self.assertEqual(answer, [0, *other], one)

    def test_every_step_and_semitone(self):
        for start in ((0, -2), (31, 1), (69, 2)):
            calls = [(*start, s, t) for s in range(-70, 71) for t in range(-200, 201)]
            told = ask_all((ABOVE, *call) for call in calls)
            for call, answer in zip(calls, told, strict=True):
                if answer != searched(*call):
                    self.assertEqual(answer, searched(*call), call)

    def test_refused(self):
        ranges = (STEP, ALTERED, STEPS_ABOVE, SEMITONES_ABOVE)
        for start in ((ABOVE, 28, 0, 4, 7), (ABOVE, 0, -2, 70, 200), (ABOVE, 69, 2, -70, -200)):
            for call in spoiled(start, ranges):
                self.assertEqual(ask(*call), REFUSED, call)

    def test_refused_ahead_of_no_note(self):
        self.assertEqual(ask(ABOVE, 28, 2, 0, 1), NO_NOTE)
        for call in spoiled((ABOVE, 28, 2, 0, 1), (STEP, ALTERED, STEPS_ABOVE, SEMITONES_ABOVE)):
            self.assertEqual(ask(*call), REFUSED, call)

    def test_refused_though_what_is_reached_would_be_a_note(self):
        self.assertEqual(ask(ABOVE, 70, 0, -1, -1), REFUSED)
        self.assertEqual(ask(ABOVE, -1, 0, 1, 1), REFUSED)
        self.assertEqual(ask(ABOVE, 28, 3, 0, -1), REFUSED)
        self.assertEqual(ask(ABOVE, 28, -3, 0, 1), REFUSED)
        self.assertEqual(ask(ABOVE, HUGE, 0, -HUGE, 0), REFUSED)


if __name__ == "__main__":
    unittest.main()
