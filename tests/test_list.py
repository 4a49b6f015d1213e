"""The one list that is handed in, the one that is given back, and what the program leaves alone."""

import builtins
import contextlib
import io
import itertools
import unittest
from unittest import mock

from calledbyname.notes import answers
from tests.asking import ABOVE, DEGREE, HUGE, INTERVAL, KEY, SOUND, ask, ask_all, written

SOME = [(SOUND, 28, 0), (INTERVAL, 28, 0, 32, 0), (ABOVE, 28, 2, 0, 1), (KEY, 1, 5), (DEGREE, 0, 0, 31, 1)]
WRONG = [(SOUND, 70, 0), (INTERVAL, 28, 0, 32, 3), (ABOVE, 28, 2, 71, 1), (KEY, HUGE, 0), (DEGREE, 0, -HUGE, 31, 1)]
TOLD = {
    SOME[0]: [3, 0, 48, 0],
    SOME[1]: [6, 0, 4, 7, 0, 1, 2],
    SOME[2]: [1, -3],
    SOME[3]: [8, 2, 0, 1, 0, 0, 0, 0, 0],
    SOME[4]: [2, 3, 1],
}
TOLD.update({call: [1, -1] for call in WRONG})


def joined(calls):
    return [number for call in calls for number in written(call)]


def all_told(calls):
    return [number for call in calls for number in TOLD[call]]


class OnlyRead(list):
    """A list that lets nobody change it, not for a while either."""

    def refuse(self, *args, **kwargs):
        raise AssertionError("what was handed in was changed")

    __setitem__ = __delitem__ = __iadd__ = __imul__ = refuse
    append = clear = extend = insert = pop = remove = reverse = sort = refuse


class OneList(unittest.TestCase):
    def test_the_documents_instances_as_written_in_the_interface(self):
        self.assertEqual(answers([1, 2, 28, 0, 0]), [3, 0, 48, 0])
        self.assertEqual(answers([2, 4, 28, 0, 32, 0, 0]), [6, 0, 4, 7, 0, 1, 2])
        self.assertEqual(answers([3, 4, 28, 2, 0, 1, 0]), [1, -3])
        self.assertEqual(answers([4, 2, 1, 5, 0]), [8, 2, 0, 1, 0, 0, 0, 0, 0])
        self.assertEqual(answers([5, 4, 0, 0, 31, 1, 0]), [2, 3, 1])

    def test_a_refusal_is_its_number_alone(self):
        for call in WRONG:
            self.assertEqual(answers(written(call)), [1, -1])

    def test_several_calls_in_any_order(self):
        for calls in itertools.permutations(SOME):
            self.assertEqual(answers(joined(calls)), all_told(calls))

    def test_refusals_among_others(self):
        for call, wrong in itertools.product(SOME, WRONG):
            for calls in ((call, wrong, call), (wrong, call, wrong)):
                self.assertEqual(answers(joined(calls)), all_told(calls))

    def test_sixty_calls(self):
        calls = (SOME + WRONG) * 6
        self.assertEqual(len(calls), 60)
        self.assertEqual(answers(joined(calls)), all_told(calls))
        self.assertEqual(answers(joined(reversed(calls))), all_told(reversed(calls)))

    def test_too_many_or_too_few_are_refused(self):
        for call in SOME:
            for numbers in range(5):
                if numbers != len(call) - 1:
                    self.assertEqual(ask(call[0], *[0] * numbers), [-1], (call, numbers))
            self.assertEqual(ask(*call, 0), [-1], call)


class LeftAlone(unittest.TestCase):
    def test_what_is_handed_in_is_not_changed(self):
        calls = joined(SOME + WRONG)
        before = list(calls)
        answers(calls)
        self.assertEqual(calls, before)
        self.assertEqual(answers(OnlyRead(calls)), all_told(SOME + WRONG))

    def test_nothing_is_kept(self):
        first = answers(joined(SOME))
        first.append(7)
        self.assertEqual(answers(joined(WRONG)), all_told(WRONG))
        self.assertEqual(answers(joined(SOME)), all_told(SOME))
        self.assertEqual(ask_all(SOME + SOME), ask_all(SOME) * 2)

    def test_whole_numbers_in_a_list(self):
        told = answers(joined(SOME + WRONG))
        self.assertIs(type(told), list)
        self.assertEqual({type(number) for number in told}, {int})

    def test_nothing_is_printed_read_or_imported(self):
        calls = joined(SOME + WRONG)
        printed = io.StringIO()
        with contextlib.ExitStack() as stack:
            stack.enter_context(contextlib.redirect_stdout(printed))
            stack.enter_context(contextlib.redirect_stderr(printed))
            asked = [stack.enter_context(mock.patch.object(builtins, name)) for name in ("open", "input", "__import__")]
            answers(calls)
        self.assertEqual(printed.getvalue(), "")
        for one in asked:
            one.assert_not_called()


if __name__ == "__main__":
    unittest.main()
