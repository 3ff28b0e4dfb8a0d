"""Promises 4 and 5: po_tell and po_seen."""

import unittest

from asking import (HIGHEST, MOST, ask, ask_last, begin, load, look, post, post_letter, receive, save, saved,
                    seen_letter, sent, show, stamp, tell)


class Tell(unittest.TestCase):
    def test_byte_by_byte(self):
        row = saved(1, 3, stamp(n0=258, n1=2 ** 40 + 7, n2=HIGHEST))
        letter = [2, 2, 1, 0] + [2, 1, 0, 0, 0, 0, 0, 0] + [7, 0, 0, 0, 0, 1, 0, 0]
        letter += [0, 0, 0, 0, 0, 0, 0, 64] + [0] * 40
        self.assertEqual(len(letter), 68)
        self.assertEqual(ask(load(0, row), tell(0, 2), save(0)), [[0], [68] + letter, [0] + row])

    def test_every_other_node_is_told(self):
        for n in range(2, 9):
            for me in range(n):
                seen = [3 + j if j < n else 0 for j in range(8)]
                for to in range(n):
                    if to != me:
                        got = ask_last(load(0, saved(me, n, seen)), tell(0, to))
                        self.assertEqual(got, sent(seen_letter(to, me, seen)))

    def test_a_new_node_tells_0s(self):
        self.assertEqual(ask(begin(0, 0, 2), tell(0, 1))[1], sent(seen_letter(1, 0, [0] * 8)))

    def test_what_is_seen_now_is_told(self):
        got = ask(begin(0, 0, 2), post(0, b"a"), tell(0, 1), receive(0, post_letter(0, 1, stamp(n1=1))), tell(0, 1),
                  show(0), tell(0, 1))
        self.assertEqual(got[2], sent(seen_letter(1, 0, stamp(n0=1))))
        self.assertEqual(got[4], got[2])
        self.assertEqual(got[6], sent(seen_letter(1, 0, stamp(n0=1, n1=1))))

    def test_what_is_known_of_others_is_not_told(self):
        row = saved(0, 3, stamp(n0=2), {1: stamp(n0=1, n1=5), 2: stamp(n2=7)})
        self.assertEqual(ask(load(0, row), tell(0, 1), save(0))[1:], [sent(seen_letter(1, 0, stamp(n0=2))), [0] + row])

    def test_most_just_enough_and_one_too_small(self):
        row = saved(0, 2, stamp(n0=2, n1=1))
        letter = sent(seen_letter(1, 0, stamp(n0=2, n1=1)))
        got = ask(load(0, row), tell(0, 1, 67), tell(0, 1, 0), save(0), tell(0, 1, 68), tell(0, 1, MOST))
        self.assertEqual(got[1:], [[-7], [-7], [0] + row, letter, letter])


class Seen(unittest.TestCase):
    def test_of_a_new_node(self):
        for n in range(2, 9):
            for me in (0, n - 1):
                self.assertEqual(ask(begin(0, me, n), look(0), save(0)), [[0], [0] * 9, [0] + saved(me, n)])

    def test_behind_posts_of_its_own(self):
        got = ask(begin(0, 2, 3), post(0, b"a"), look(0), post(0, b"b"), post(0, b"c", 0), look(0))
        self.assertEqual([got[2], got[5]], [[0] + stamp(n2=1), [0] + stamp(n2=2)])

    def test_behind_shown_ones(self):
        calls = [receive(0, post_letter(2, 0, stamp(n0=count))) for count in (2, 1)]
        calls.append(receive(0, post_letter(2, 1, stamp(n1=1))))
        got = ask(begin(0, 2, 3), *calls, look(0), *[show(0), look(0)] * 4)
        self.assertEqual(got[4::2], [[0] + numbers for numbers in (
            [0] * 8, stamp(n0=1), stamp(n0=2), stamp(n0=2, n1=1), stamp(n0=2, n1=1))])

    def test_of_a_loaded_node(self):
        for me, seen in ((0, stamp(n0=HIGHEST, n1=HIGHEST - 1, n2=2 ** 31, n3=2 ** 53 + 1)),
                         (3, stamp(n0=256, n1=0, n2=2 ** 32, n3=7)), (1, [0] * 8)):
            row = saved(me, 4, seen)
            self.assertEqual(ask(load(0, row), look(0), save(0)), [[0], [0] + seen, [0] + row])
        every = [HIGHEST - j for j in range(8)]
        self.assertEqual(ask(load(0, saved(5, 8, every)), look(0)), [[0], [0] + every])

    def test_a_seen_letter_does_not_change_it(self):
        got = ask_last(begin(0, 0, 2), receive(0, seen_letter(0, 1, stamp(n0=3, n1=4))), look(0))
        self.assertEqual(got, [0] * 9)


if __name__ == "__main__":
    unittest.main()
