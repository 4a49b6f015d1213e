"""The one list that is handed in, the one that is given back, and what the program leaves alone."""

import builtins
import contextlib
import io
import itertools
import unittest
from unittest import mock

from calledbyname.notes import answers
from tests.asking import (ABOVE, BUILD, CHORD, DEGREE, HUGE, INTERVAL, KEY, MOVE, SOUND, SPELL, ask, ask_all, flat,
                          written)

TOLD = {
    (SOUND, 28, 0): [3, 0, 48, 0],
    (INTERVAL, 28, 0, 32, 0): [6, 0, 4, 7, 0, 1, 2],
    (ABOVE, 28, 2, 0, 1): [1, -3],
    (KEY, 1, 5): [8, 2, 0, 1, 0, 0, 0, 0, 0],
    (DEGREE, 0, 0, 31, 1): [2, 3, 1],
    (SPELL, 0, 48, 52, 55, 58): [9, 38, 28, 0, 30, 0, 32, 0, 34, -1],
    (CHORD, 30, 0, 32, 0, 35, 0): [5, 0, 0, 0, 1, 6],
    (BUILD, 28, 0, 5, 1): [9, 4, 30, 0, 32, 0, 34, -1, 35, 0],
    (MOVE, 4, 7, 28, 0, 34, -1): [5, 2, 32, 0, 38, 0],
}
SOME = list(TOLD)
# Calls of no sound and no note, the longest ones, and those of which something is none.
MORE = {
    (SPELL, -7): [1, 0],
    (MOVE, -70, 200): [1, 0],
    (SPELL, 4, *[48] * 6): [13, 72, *[27, 1] * 6],
    (CHORD, *[28, 0] * 6, 30, 0, 32, 0): [4, 0, 0, 0, 0],
    (MOVE, -7, -12, *[28, 1] * 8): [17, 8, *[21, 1] * 8],
    (CHORD, 28, 0): [1, -3],
    (BUILD, 69, 0, 0, 0): [1, -3],
    (MOVE, 1, 1, 28, 0, 69, 0): [1, -3],
}
WRONG = [
    (SOUND, 70, 0), (INTERVAL, 28, 0, 32, 3), (ABOVE, 28, 2, 71, 1), (KEY, HUGE, 0), (DEGREE, 0, -HUGE, 31, 1),
    (SPELL, 8), (CHORD,), (BUILD, 28, 0, 3, 3), (MOVE, 0, 0, 28, 0, -HUGE, 0), (SPELL, 0, 119), (SPELL, 0, *[60] * 18),
    (CHORD, *[28, 0] * 9),
]
TOLD.update(MORE)
TOLD.update({call: [1, -1] for call in WRONG})
EVERY = list(TOLD)


def joined(calls):
    return flat(written(call) for call in calls)


def all_told(calls):
    return flat(TOLD[call] for call in calls)


class OnlyRead(list):
    """A list that lets nobody change it, not for a while either."""

    def refuse(self, *args, **kwargs):
        raise AssertionError("what was handed in was changed")

    __setitem__ = __delitem__ = __iadd__ = __imul__ = refuse
    append = clear = extend = insert = pop = remove = reverse = sort = refuse


class OneList(unittest.TestCase):
    def test_the_documents_instances_as_written_in_the_interface(self):
        self.assertEqual(answers([1, 2, 28, 0, 0]), [3, 0, 48, 0])
        self.assertEqual(answers([2, 4, 28, 0, 32, 0, 0]), [6, 0, 4, 7, 0, 1, 2])
        self.assertEqual(answers([3, 4, 28, 2, 0, 1, 0]), [1, -3])
        self.assertEqual(answers([4, 2, 1, 5, 0]), [8, 2, 0, 1, 0, 0, 0, 0, 0])
        self.assertEqual(answers([5, 4, 0, 0, 31, 1, 0]), [2, 3, 1])
        self.assertEqual(answers([6, 5, 0, 48, 52, 55, 58, 0]), [9, 38, 28, 0, 30, 0, 32, 0, 34, -1])
        self.assertEqual(answers([7, 6, 30, 0, 32, 0, 35, 0, 0]), [5, 0, 0, 0, 1, 6])
        self.assertEqual(answers([8, 4, 28, 0, 5, 1, 0]), [9, 4, 30, 0, 32, 0, 34, -1, 35, 0])
        self.assertEqual(answers([9, 6, 4, 7, 28, 0, 34, -1, 0]), [5, 2, 32, 0, 38, 0])

    def test_no_sound_and_no_note(self):
        self.assertEqual(answers([6, 1, 0, 0]), [1, 0])
        self.assertEqual(answers([7, 0, 0]), [1, -1])
        self.assertEqual(answers([9, 2, 0, 0, 0]), [1, 0])

    def test_a_refusal_is_its_number_alone(self):
        for call in WRONG:
            self.assertEqual(answers(written(call)), [1, -1])
        for call in ((ABOVE, 28, 2, 0, 1), (CHORD, 28, 0), (BUILD, 69, 0, 0, 0), (MOVE, 1, 1, 28, 0, 69, 0)):
            self.assertEqual(answers(written(call)), [1, -3])

    def test_several_calls_in_any_order(self):
        for calls in itertools.permutations(SOME, 3):
            self.assertEqual(answers(joined(calls)), all_told(calls))
        for at in range(len(SOME)):
            calls = SOME[at:] + SOME[:at]
            self.assertEqual(answers(joined(calls)), all_told(calls))
            self.assertEqual(answers(joined(reversed(calls))), all_told(reversed(calls)))

    def test_refusals_among_others(self):
        for call, other in itertools.product(EVERY, EVERY):
            calls = (call, other, call)
            self.assertEqual(answers(joined(calls)), all_told(calls))

    def test_sixty_calls(self):
        calls = (EVERY * 3)[:60]
        self.assertEqual(len(calls), 60)
        self.assertEqual(answers(joined(calls)), all_told(calls))
        self.assertEqual(answers(joined(reversed(calls))), all_told(reversed(calls)))

    def test_the_longest_list(self):
        calls = joined([(SPELL, 0, *[60] * 18)] * 60)
        self.assertEqual(len(calls), 1320)
        self.assertEqual(answers(calls), [1, -1] * 60)

    def test_too_many_or_too_few_are_refused(self):
        for number, right in ((SOUND, 2), (INTERVAL, 4), (ABOVE, 4), (KEY, 2), (DEGREE, 4), (BUILD, 4)):
            for count in range(19):
                told = ask(number, *[0] * count)
                if count == right:
                    self.assertGreaterEqual(told[0], 0, number)
                else:
                    self.assertEqual(told, [-1], (number, count))


class LeftAlone(unittest.TestCase):
    def test_what_is_handed_in_is_not_changed(self):
        calls = joined(EVERY)
        before = list(calls)
        answers(calls)
        self.assertEqual(calls, before)
        self.assertEqual(answers(OnlyRead(calls)), all_told(EVERY))

    def test_nothing_is_kept(self):
        first = answers(joined(EVERY))
        first.append(7)
        self.assertEqual(answers(joined(WRONG)), all_told(WRONG))
        self.assertEqual(answers(joined(EVERY)), all_told(EVERY))
        self.assertEqual(ask_all(EVERY + EVERY), ask_all(EVERY) * 2)

    def test_whole_numbers_in_a_list(self):
        told = answers(joined(EVERY))
        self.assertIs(type(told), list)
        self.assertEqual({type(number) for number in told}, {int})

    def test_nothing_is_printed_read_or_imported(self):
        calls = joined(EVERY)
        printed = io.StringIO()
        with contextlib.ExitStack() as stack:
            stack.enter_context(contextlib.redirect_stdout(printed))
            stack.enter_context(contextlib.redirect_stderr(printed))
            asked = [stack.enter_context(mock.patch.object(builtins, name)) for name in ("open", "input", "__import__")]
            answers(calls)
        self.assertEqual(printed.getvalue(), "")
        for one in asked:
            one.assert_not_called()


if __name__ == "__main__":
    unittest.main()
