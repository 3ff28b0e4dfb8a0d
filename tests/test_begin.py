"""Promise 1: po_begin."""

import unittest

from asking import LEAST, MOST, ask, ask_last, begin, post, save, saved


class Begin(unittest.TestCase):
    def test_every_me_of_every_n_begins_with_nothing(self):
        for n in range(2, 9):
            for me in range(n):
                with self.subTest(me=me, n=n):
                    self.assertEqual(ask(begin(0, me, n), save(0)), [[0], [0] + saved(me, n)])

    def test_me_or_n_out_of_bounds_is_refused(self):
        wrong = [(-1, 2), (2, 2), (8, 8), (7, 7), (-1, 8), (0, 1), (0, 0), (0, 9), (8, 9), (0, -2),
                 (-3, -2), (LEAST, 8), (MOST, 8), (0, LEAST), (0, MOST), (MOST, MOST), (256, 2), (0, 258)]
        for me, n in wrong:
            with self.subTest(me=me, n=n):
                self.assertEqual(ask(begin(0, me, n)), [[-2]])

    def test_a_refused_begin_leaves_the_node_as_it_was(self):
        calls = ask(begin(3, 1, 4), post(3, [9]), save(3), begin(3, 4, 4), save(3))
        self.assertEqual(calls[3], [-2])
        self.assertEqual(calls[4], calls[2])
        self.assertNotEqual(calls[4], [0] + saved(1, 4))

    def test_begin_again_forgets_what_was_kept(self):
        self.assertEqual(ask_last(begin(0, 0, 2), post(0, [1]), begin(0, 2, 3), save(0)), [0] + saved(2, 3))


if __name__ == "__main__":
    unittest.main()
