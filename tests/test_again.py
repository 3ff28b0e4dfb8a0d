"""Promise 4: po_again."""

import unittest

from asking import (HIGHEST, MOST, again, ask, begin, load, post, post_letter, receive, save, saved, seen_letter,
                    sent, stamp, text)


class Again(unittest.TestCase):
    def setUp(self):
        self.mine = [(stamp(n0=2, n1=5), b"five"), (stamp(n0=2, n1=6, n2=4), b""), (stamp(n0=3, n1=7, n2=4), text(31))]
        self.seen = stamp(n0=3, n1=7, n2=9)

    def row(self, known):
        return saved(1, 4, self.seen, known, self.mine)

    def letters(self, to, posts):
        return sent(*[post_letter(to, 1, numbers, words) for numbers, words in posts])

    def test_just_those_that_the_node_is_not_known_to_have_seen(self):
        for to in (0, 2, 3):
            for number, first in ((0, 0), (4, 0), (5, 1), (6, 2), (7, 3), (8, 3), (HIGHEST, 3)):
                with self.subTest(to=to, number=number):
                    row = self.row({to: stamp(n1=number)})
                    got = ask(load(0, row), again(0, to), save(0))
                    self.assertEqual(got[1:], [self.letters(to, self.mine[first:]), [0] + row])

    def test_only_what_that_node_is_known_to_have_seen_of_mine_counts(self):
        known = {0: stamp(n0=9, n2=9, n3=9), 2: stamp(n1=6), 3: stamp(n1=9)}
        got = ask(load(0, self.row(known)), again(0, 0), again(0, 2), again(0, 3))
        self.assertEqual(got[1:], [self.letters(0, self.mine), self.letters(2, self.mine[2:]), [0]])

    def test_none_are_kept(self):
        for to in (1, 2):
            got = ask(begin(0, 0, 3), again(0, to, 0), again(0, to), save(0))
            self.assertEqual(got[1:], [[0], [0], [0] + saved(0, 3)])

    def test_what_was_posted_is_sent_again_as_it_was(self):
        for n in (2, 3, 8):
            for me in (0, n - 1):
                posts = [post(0, [k]) for k in range(3)]
                others = [j for j in range(n) if j != me]
                got = ask(begin(0, me, n), *posts, *[again(0, to) for to in others])
                for k, to in enumerate(others):
                    letters = [answer[1 + 100 * k:101 + 100 * k] for answer in got[1:4]]
                    self.assertEqual(got[4 + k], sent(*letters))

    def test_as_often_as_it_is_asked(self):
        got = ask(begin(0, 0, 2), post(0, b"a"), again(0, 1), again(0, 1), again(0, 1))
        self.assertEqual(got[1:], [sent(post_letter(1, 0, stamp(n0=1), b"a"))] * 4)

    def test_a_seen_makes_them_fewer(self):
        got = ask(begin(0, 0, 3), post(0, b"a"), post(0, b"b"), receive(0, seen_letter(0, 2, stamp(n0=1))),
                  again(0, 1), again(0, 2), receive(0, seen_letter(0, 1, stamp(n0=2))), again(0, 1), again(0, 2))
        first = (stamp(n0=1), b"a")
        second = (stamp(n0=2), b"b")
        self.assertEqual(got[4], sent(post_letter(1, 0, *first), post_letter(1, 0, *second)))
        self.assertEqual(got[5], sent(post_letter(2, 0, *second)))
        self.assertEqual(got[7:], [[0], sent(post_letter(2, 0, *second))])

    def test_32_posts(self):
        calls = [post(0, text(k % 32)) for k in range(32)]
        letters = [post_letter(1, 0, stamp(n0=k + 1), text(k % 32)) for k in range(32)]
        got = ask(begin(0, 0, 2), *calls, again(0, 1, 3199), again(0, 1, 3200), again(0, 1, MOST))
        self.assertEqual(got[-3:], [[-7], sent(*letters), sent(*letters)])

    def test_most_just_enough_and_one_too_small(self):
        for number, size in ((0, 300), (5, 200), (6, 100)):
            with self.subTest(size=size):
                row = self.row({0: stamp(n1=number)})
                got = ask(load(0, row), again(0, 0, size - 1), again(0, 0, 0), save(0), again(0, 0, size))
                self.assertEqual(got[1:4], [[-7], [-7], [0] + row])
                self.assertEqual(got[4], self.letters(0, self.mine[len(self.mine) - size // 100:]))

    def test_most_0_is_enough_for_none(self):
        row = self.row({0: stamp(n1=7)})
        self.assertEqual(ask(load(0, row), again(0, 0, 0), again(0, 2, 0)), [[0], [0], [-7]])


if __name__ == "__main__":
    unittest.main()
