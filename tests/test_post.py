"""Promises 3 and 4: po_post."""

import unittest

from asking import (HIGHEST, LEAST, MOST, ask, ask_last, begin, load, post, post_letter, receive, save, saved,
                    seen_letter, sent, stamp, text)


class Post(unittest.TestCase):
    def test_a_post_goes_to_each_other_node_the_lowest_first(self):
        for n in (2, 3, 8):
            for me in (0, n - 1, n // 2):
                with self.subTest(me=me, n=n):
                    numbers = [1 if j == me else 0 for j in range(8)]
                    letters = [post_letter(to, me, numbers, b"hello") for to in range(n) if to != me]
                    kept = [0] + saved(me, n, numbers, mine=[(numbers, b"hello")])
                    self.assertEqual(ask(begin(0, me, n), post(0, b"hello"), save(0)), [[0], sent(*letters), kept])

    def test_texts_of_0_to_31_bytes(self):
        for length in range(32):
            with self.subTest(length=length):
                words = text(length)
                numbers = stamp(n1=1)
                self.assertEqual(
                    ask(begin(0, 1, 2), post(0, words), save(0))[1:],
                    [sent(post_letter(0, 1, numbers, words)), [0] + saved(1, 2, numbers, mine=[(numbers, words)])])

    def test_a_text_may_hold_every_byte(self):
        for start in range(0, 256, 16):
            words = text(16, start)
            self.assertEqual(ask_last(begin(0, 0, 2), post(0, words)), sent(post_letter(1, 0, stamp(n0=1), words)))

    def test_0s_at_the_end_of_a_text_are_of_the_text(self):
        words = [7, 0, 0]
        self.assertEqual(
            ask_last(begin(0, 0, 2), post(0, words), save(0)),
            [0] + saved(0, 2, stamp(n0=1), mine=[(stamp(n0=1), words)]))

    def test_the_stamp_is_what_is_seen_with_one_more_of_me(self):
        seen = stamp(n0=5, n1=2 ** 40 + 3, n2=HIGHEST)
        numbers = stamp(n0=5, n1=2 ** 40 + 4, n2=HIGHEST)
        got = ask(load(0, saved(1, 3, seen)), post(0, b"x"), save(0))
        self.assertEqual(got[1], sent(post_letter(0, 1, numbers, b"x"), post_letter(2, 1, numbers, b"x")))
        self.assertEqual(got[2], [0] + saved(1, 3, numbers, mine=[(numbers, b"x")]))

    def test_posts_are_put_one_behind_another(self):
        got = ask(begin(0, 0, 2), post(0, b"a"), post(0, b""), post(0, b"ccc"), save(0))
        mine = [(stamp(n0=1), b"a"), (stamp(n0=2), b""), (stamp(n0=3), b"ccc")]
        for k, (numbers, words) in enumerate(mine):
            self.assertEqual(got[1 + k], sent(post_letter(1, 0, numbers, words)))
        self.assertEqual(got[-1], [0] + saved(0, 2, stamp(n0=3), mine=mine))

    def test_a_post_seen_of_all_ahead_is_kept_all_the_same(self):
        known = {1: stamp(n0=9)}
        got = ask_last(load(0, saved(0, 2, known=known)), post(0, b"a"), save(0))
        self.assertEqual(got, [0] + saved(0, 2, stamp(n0=1), known, [(stamp(n0=1), b"a")]))

    def test_32_are_kept_and_no_more(self):
        calls = [post(0, [k]) for k in range(32)]
        got = ask(begin(0, 0, 2), *calls, save(0), post(0, [99]), save(0))
        mine = [(stamp(n0=k + 1), [k]) for k in range(32)]
        self.assertEqual(got[32], sent(post_letter(1, 0, stamp(n0=32), [31])))
        self.assertEqual(got[33], [0] + saved(0, 2, stamp(n0=32), mine=mine))
        self.assertEqual(got[34], [-6])
        self.assertEqual(got[35], got[33])

    def test_there_is_room_again_when_one_is_no_longer_kept(self):
        calls = [post(0, [k]) for k in range(33)]
        got = ask(begin(0, 0, 2), *calls, receive(0, seen_letter(0, 1, stamp(n0=1))), post(0, [50]), post(0, [51]))
        self.assertEqual(got[-4:-2], [[-6], [0]])
        self.assertEqual(got[-2:], [sent(post_letter(1, 0, stamp(n0=33), [50])), [-6]])

    def test_2_to_the_62_seen_of_me_is_the_end(self):
        ahead = saved(0, 2, stamp(n0=HIGHEST - 1))
        got = ask(load(0, ahead), post(0, b"a"), save(0), post(0, b"b"), save(0))
        self.assertEqual(got[1], sent(post_letter(1, 0, stamp(n0=HIGHEST), b"a")))
        self.assertEqual(got[2], [0] + saved(0, 2, stamp(n0=HIGHEST), mine=[(stamp(n0=HIGHEST), b"a")]))
        self.assertEqual(got[3], [-6])
        self.assertEqual(got[4], got[2])

    def test_2_to_the_62_seen_of_another_does_not_matter(self):
        numbers = stamp(n0=1, n1=HIGHEST)
        self.assertEqual(
            ask_last(load(0, saved(0, 2, stamp(n1=HIGHEST))), post(0, b"a")), sent(post_letter(1, 0, numbers, b"a")))

    def test_most_just_enough_and_one_too_small(self):
        for n in range(2, 9):
            with self.subTest(n=n):
                size = 100 * (n - 1)
                got = ask(begin(0, 0, n), save(0), post(0, b"a", size - 1), post(0, b"a", 0), save(0),
                          post(0, b"a", size))
                self.assertEqual(got[2:4], [[-7], [-7]])
                self.assertEqual(got[4], got[1])
                self.assertEqual(got[5][0], size)
                self.assertEqual(len(got[5]), 1 + size)
                self.assertEqual(got[5][1:101], post_letter(1, 0, stamp(n0=1), b"a"))

    def test_most_below_0_is_refused(self):
        for most in (-1, LEAST):
            got = ask(begin(0, 0, 2), save(0), post(0, b"a", most), save(0))
            self.assertEqual(got[2], [-2])
            self.assertEqual(got[3], got[1])

    def test_a_text_longer_than_31_is_refused(self):
        got = ask(begin(0, 0, 2), save(0), post(0, text(32)), save(0))
        self.assertEqual(got[2], [-2])
        self.assertEqual(got[3], got[1])

    def test_the_refusal_told_first_is_answered(self):
        full = saved(0, 2, stamp(n0=32), mine=[(stamp(n0=k + 1), []) for k in range(32)])
        at_end = saved(0, 2, stamp(n0=HIGHEST))
        for row in (full, at_end):
            got = ask(load(0, row), post(0, b"a", -1), post(0, b"a", 0), post(0, b"a", 99), post(0, b"a"), save(0))
            self.assertEqual(got[1:], [[-2], [-6], [-6], [-6], [0] + row])

    def test_most_may_be_the_greatest(self):
        self.assertEqual(ask_last(begin(0, 0, 2), post(0, b"", MOST))[0], 100)


if __name__ == "__main__":
    unittest.main()
