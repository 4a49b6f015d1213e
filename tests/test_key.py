import unittest

from tests.asking import FIFTHS_OF_KEY, KEY, KEYS, MODE, REFUSED, ask, ask_all, first_degree, own_alteration, spoiled


class Key(unittest.TestCase):
    def test_major_keys(self):
        self.assertEqual(ask(KEY, 0, 0), [0, 0, 0, 0, 0, 0, 0, 0])
        self.assertEqual(ask(KEY, 1, 0), [4, 0, 0, 0, 0, 0, 0, 1])
        self.assertEqual(ask(KEY, 2, 0), [1, 0, 0, 1, 0, 0, 0, 1])
        self.assertEqual(ask(KEY, -1, 0), [3, 0, 0, 0, -1, 0, 0, 0])
        self.assertEqual(ask(KEY, -3, 0), [2, -1, 0, 0, -1, -1, 0, 0])

    def test_other_modes(self):
        self.assertEqual(ask(KEY, 0, 1), [1, 0, 0, 0, 0, 0, 0, 0])
        self.assertEqual(ask(KEY, 0, 5), [5, 0, 0, 0, 0, 0, 0, 0])
        self.assertEqual(ask(KEY, 1, 5), [2, 0, 1, 0, 0, 0, 0, 0])
        self.assertEqual(ask(KEY, -3, 5), [0, 0, 0, -1, 0, 0, -1, -1])
        self.assertEqual(ask(KEY, 3, 6), [4, 1, 0, 0, 1, 0, 0, 1])

    def test_edges(self):
        self.assertEqual(ask(KEY, 7, 0), [0, 1, 1, 1, 1, 1, 1, 1])
        self.assertEqual(ask(KEY, 7, 6), [6, 1, 1, 1, 1, 1, 1, 1])
        self.assertEqual(ask(KEY, -7, 0), [0, -1, -1, -1, -1, -1, -1, -1])
        self.assertEqual(ask(KEY, -7, 6), [6, -1, -1, -1, -1, -1, -1, -1])
        self.assertEqual(ask(KEY, 6, 0), [3, 1, 1, 1, 0, 1, 1, 1])
        self.assertEqual(ask(KEY, -6, 0), [4, -1, -1, -1, -1, -1, -1, 0])

    def test_every_key(self):
        for (k, mode), told in zip(KEYS, ask_all((KEY, k, mode) for k, mode in KEYS), strict=True):
            first = first_degree(k, mode)
            wanted = [first] + [own_alteration(k, first + degree) for degree in range(7)]
            self.assertEqual(told, wanted, (k, mode))

    def test_refused(self):
        for start in ((KEY, 0, 0), (KEY, -7, 6), (KEY, 7, 0)):
            for call in spoiled(start, (FIFTHS_OF_KEY, MODE)):
                self.assertEqual(ask(*call), REFUSED, call)


if __name__ == "__main__":
    unittest.main()
