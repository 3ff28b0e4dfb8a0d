"""Promise 5: po_next."""

import unittest

from asking import (HIGHEST, ask, ask_last, begin, load, look, post, post_letter, receive, save, saved, seen_letter,
                    sent, show, shown, stamp, stamp_of, text)


class Next(unittest.TestCase):
    def test_nothing_waits(self):
        for me, n in ((0, 2), (1, 2), (7, 8)):
            self.assertEqual(ask(begin(0, me, n), show(0), save(0)), [[0], [-4], [0] + saved(me, n)])

    def test_a_post_of_my_own_is_not_shown_again(self):
        got = ask(begin(0, 0, 2), post(0, b"a"), show(0), save(0))
        self.assertEqual(got[2:], [[-4], [0] + saved(0, 2, stamp(n0=1), mine=[(stamp(n0=1), b"a")])])

    def test_the_first_post_of_every_author(self):
        for n in range(2, 9):
            for me in range(n):
                for author in range(n):
                    if author != me:
                        numbers = stamp_of(author, 1)
                        got = ask(begin(0, me, n), receive(0, post_letter(me, author, numbers, b"hi")), show(0),
                                  save(0), show(0))
                        self.assertEqual(got[2:], [shown(author, b"hi"), [0] + saved(me, n, numbers), [-4]])

    def test_texts_of_0_to_31_bytes(self):
        for length in range(32):
            with self.subTest(length=length):
                words = text(length)
                got = ask(begin(0, 0, 2), receive(0, post_letter(0, 1, stamp(n1=1), words)), show(0))
                self.assertEqual(got[2], [length, 1] + words)

    def test_a_text_may_hold_every_byte(self):
        for start in range(0, 256, 16):
            words = text(16, start)
            got = ask_last(begin(0, 0, 2), receive(0, post_letter(0, 1, stamp(n1=1), words)), show(0))
            self.assertEqual(got, shown(1, words))

    def test_0s_of_a_text_are_shown(self):
        for words in ([0], [0] * 31, [7, 0, 0], [0, 0, 7]):
            got = ask_last(begin(0, 0, 2), receive(0, post_letter(0, 1, stamp(n1=1), words)), show(0))
            self.assertEqual(got, shown(1, words))

    def test_the_others_that_wait_stay(self):
        first = {0: [(stamp(n0=3), b"a"), (stamp(n0=4), b"b"), (stamp(n0=34), b"c")],
                 2: [(stamp(n2=2), b"x"), (stamp(n2=9), b"y")]}
        mine = [(stamp(n1=6), b"mine")]
        known = {0: stamp(n0=2, n1=5), 2: stamp(n2=1, n1=9)}
        got = ask(load(0, saved(1, 3, stamp(n0=2, n1=6, n2=1), known, mine, first)), show(0), save(0))
        after = {0: first[0][1:], 2: first[2]}
        self.assertEqual(got[1:], [shown(0, b"a"),
                                   [0] + saved(1, 3, stamp(n0=3, n1=6, n2=1), known, mine, after)])

    def test_there_is_room_for_one_more_behind_one_that_is_shown(self):
        letter = post_letter(0, 1, stamp(n1=33), b"far")
        got = ask(begin(0, 0, 2), receive(0, letter), receive(0, post_letter(0, 1, stamp(n1=1))), show(0),
                  receive(0, letter), save(0))
        self.assertEqual(got[3:], [shown(1, b""), [0],
                                   [0] + saved(0, 2, stamp(n1=1), waits={1: [(stamp(n1=33), b"far")]})])

    def test_a_post_that_was_shown_is_answered_with_seen(self):
        letter = post_letter(0, 1, stamp(n1=1), b"a")
        got = ask(begin(0, 0, 2), receive(0, letter), show(0), receive(0, letter), show(0))
        self.assertEqual(got[3:], [sent(seen_letter(1, 0, stamp(n1=1))), [-4]])

    def test_a_post_of_mine_behind_one_that_is_shown_tells_of_it(self):
        got = ask(begin(0, 1, 2), receive(0, post_letter(1, 0, stamp(n0=1), b"a")), post(0, b"b"), show(0),
                  post(0, b"c"))
        self.assertEqual(got[2], sent(post_letter(0, 1, stamp(n1=1), b"b")))
        self.assertEqual(got[4], sent(post_letter(0, 1, stamp(n0=1, n1=2), b"c")))

    def test_the_last_count_there_is(self):
        row = saved(0, 2, stamp(n0=HIGHEST, n1=HIGHEST - 1), waits={1: [(stamp(n0=HIGHEST, n1=HIGHEST), b"end")]})
        got = ask(load(0, row), show(0), save(0), show(0))
        self.assertEqual(got[1:], [shown(1, b"end"), [0] + saved(0, 2, stamp(n0=HIGHEST, n1=HIGHEST)), [-4]])


class NextRefused(unittest.TestCase):
    def refuse(self, row):
        self.assertEqual(ask(load(0, row), show(0), save(0), show(0)), [[0], [-4], [0] + row, [-4]])

    def test_a_count_more_than_one_above_what_is_seen(self):
        for seen in (0, 5, HIGHEST - 32):
            for more in (2, 3, 32):
                waits = {1: [(stamp(n1=seen + more), b"a")]}
                self.refuse(saved(0, 3, stamp(n1=seen), waits=waits))

    def test_only_the_first_that_waits_of_an_author_is_asked(self):
        waits = {1: [(stamp(n1=1, n2=1), b"a"), (stamp(n1=2), b"b")]}
        self.refuse(saved(0, 3, waits=waits))

    def test_a_stamp_that_says_more_of_another_node(self):
        seen = stamp(n0=3, n1=4, n2=5, n3=6)
        for author in (0, 2, 3):
            for other in range(4):
                if other != author:
                    for more in (1, 2, 32, HIGHEST - 10):
                        numbers = list(seen)
                        numbers[author] += 1
                        waits = {author: [(list(numbers), b"a")]}
                        row = saved(1, 4, seen, waits=waits)
                        self.assertEqual(ask(load(0, row), show(0))[1], shown(author, b"a"))
                        numbers[other] += more
                        waits = {author: [(list(numbers), b"a")]}
                        self.refuse(saved(1, 4, seen, waits=waits))

    def test_a_stamp_that_says_less_of_the_others_is_no_hindrance(self):
        seen = stamp(n0=3, n1=4, n2=HIGHEST)
        for numbers in (stamp(n0=4), stamp(n0=4, n1=3, n2=9), stamp(n0=4, n1=4, n2=HIGHEST)):
            row = saved(1, 3, seen, waits={0: [(numbers, b"a")]})
            self.assertEqual(ask(load(0, row), show(0))[1], shown(0, b"a"))

    def test_what_is_known_of_the_others_does_not_matter(self):
        known = {1: stamp(n0=HIGHEST, n1=HIGHEST, n2=HIGHEST), 2: stamp(n0=9, n1=9, n2=9)}
        self.refuse(saved(0, 3, known=known, waits={1: [(stamp(n1=1, n2=1), b"a")]}))
        self.refuse(saved(0, 3, known=known, waits={1: [(stamp(n1=2), b"a")]}))

    def test_two_that_wait_for_each_other(self):
        self.refuse(saved(0, 3, waits={1: [(stamp(n1=1, n2=1), b"a")], 2: [(stamp(n1=1, n2=1), b"b")]}))

    def test_it_is_shown_when_my_own_post_is_there(self):
        letter = post_letter(0, 1, stamp(n0=1, n1=1), b"answer")
        got = ask(begin(0, 0, 2), receive(0, letter), show(0), post(0, b"question"), show(0))
        self.assertEqual([got[2], got[4]], [[-4], shown(1, b"answer")])


class NextOrder(unittest.TestCase):
    def test_the_lowest_of_several_authors_first(self):
        for me in range(8):
            others = [j for j in range(8) if j != me]
            calls = [receive(0, post_letter(me, j, stamp_of(j, 1), [j])) for j in reversed(others)]
            got = ask(begin(0, me, 8), *calls, *[show(0)] * 8)
            self.assertEqual(got[8:], [shown(j, [j]) for j in others] + [[-4]])

    def test_the_lowest_has_all_its_posts_shown_ahead_of_the_next(self):
        calls = [receive(0, post_letter(1, j, stamp_of(j, count), [j, count])) for count in (3, 1, 2) for j in (2, 0)]
        got = ask(begin(0, 1, 3), *calls, *[show(0)] * 7)
        self.assertEqual(got[7:], [shown(j, [j, count]) for j in (0, 2) for count in (1, 2, 3)] + [[-4]])

    def test_an_author_whose_post_may_not_be_shown_is_passed_over(self):
        waits = {1: [(stamp(n1=2), b"gap")], 2: [(stamp(n2=1, n3=1), b"after")], 3: [(stamp(n3=1), b"first")]}
        got = ask(load(0, saved(0, 4, waits=waits)), *[show(0)] * 3, save(0))
        self.assertEqual(got[1:4], [shown(3, b"first"), shown(2, b"after"), [-4]])
        left = {1: waits[1]}
        self.assertEqual(got[4], [0] + saved(0, 4, stamp(n2=1, n3=1), waits=left))

    def test_a_lower_author_whose_post_may_now_be_shown_goes_first(self):
        waits = {1: [(stamp(n1=1, n2=1), b"lower")], 2: [(stamp(n2=1), b"a"), (stamp(n2=2), b"b")]}
        got = ask(load(0, saved(0, 3, waits=waits)), *[show(0)] * 4)
        self.assertEqual(got[1:], [shown(2, b"a"), shown(1, b"lower"), shown(2, b"b"), [-4]])

    def test_a_chain_in_whatever_order_it_came(self):
        # Each answers the one ahead, so there is but one order in which they may be shown.
        chain = [(3, stamp(n3=1)), (1, stamp(n1=1, n3=1)), (2, stamp(n1=1, n2=1, n3=1)),
                 (3, stamp(n1=1, n2=1, n3=2)), (1, stamp(n1=2, n2=1, n3=2))]
        calls = [receive(0, post_letter(0, author, numbers, [k])) for k, (author, numbers) in enumerate(chain)]
        for order in ((0, 1, 2, 3, 4), (4, 3, 2, 1, 0), (2, 4, 0, 3, 1), (1, 0, 4, 2, 3), (3, 2, 4, 1, 0)):
            with self.subTest(order=order):
                got = ask(begin(0, 0, 4), *[calls[k] for k in order], *[show(0)] * 6)
                self.assertEqual(got[6:], [shown(author, [k]) for k, (author, numbers) in enumerate(chain)] + [[-4]])

    def test_a_chain_asked_behind_each_letter(self):
        chain = [(1, stamp(n1=1)), (2, stamp(n1=1, n2=1)), (1, stamp(n1=2, n2=1)), (2, stamp(n1=2, n2=2))]
        calls = [receive(0, post_letter(0, author, numbers, [k])) for k, (author, numbers) in enumerate(chain)]
        got = ask(begin(0, 0, 3), calls[1], show(0), calls[3], show(0), calls[0], *[show(0)] * 3,
                  calls[2], *[show(0)] * 3)
        self.assertEqual([got[2], got[4]], [[-4], [-4]])
        self.assertEqual(got[6:9], [shown(1, [0]), shown(2, [1]), [-4]])
        self.assertEqual(got[10:], [shown(1, [2]), shown(2, [3]), [-4]])

    def test_32_that_wait_are_shown_in_order(self):
        calls = [receive(0, post_letter(1, 0, stamp(n0=count), [count])) for count in range(32, 0, -1)]
        got = ask(begin(0, 1, 2), *calls, *[show(0)] * 33, look(0))
        self.assertEqual(got[33:-1], [shown(0, [count]) for count in range(1, 33)] + [[-4]])
        self.assertEqual(got[-1], [0] + stamp(n0=32))


if __name__ == "__main__":
    unittest.main()
