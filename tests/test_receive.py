"""Promises 3 and 4: po_receive."""

import unittest

from asking import (HIGHEST, LEAST, ask, ask_last, begin, eight, load, post, post_letter, receive, save, saved,
                    seen_letter, sent, stamp, stamp_of, text)


class ReceivePost(unittest.TestCase):
    def setUp(self):
        self.seen = stamp(n0=4, n1=7, n2=HIGHEST - 3)
        self.row = saved(1, 3, self.seen)

    def kept(self, waits):
        return [0] + saved(1, 3, self.seen, waits=waits)

    def test_a_post_of_a_new_node_waits(self):
        numbers = stamp(n0=1)
        got = ask(begin(0, 1, 2), receive(0, post_letter(1, 0, numbers, b"hi"), 0), save(0))
        self.assertEqual(got[1:], [[0], [0] + saved(1, 2, waits={0: [(numbers, b"hi")]})])

    def test_a_post_that_is_seen_is_answered_with_seen(self):
        for count in (1, 3, 4):
            with self.subTest(count=count):
                got = ask(load(0, self.row), receive(0, post_letter(1, 0, stamp(n0=count), b"hi")), save(0))
                self.assertEqual(got[1:], [sent(seen_letter(0, 1, self.seen)), [0] + self.row])

    def test_seen_goes_to_the_author(self):
        letter = post_letter(1, 2, stamp(n2=HIGHEST - 3))
        self.assertEqual(ask_last(load(0, self.row), receive(0, letter)), sent(seen_letter(2, 1, self.seen)))

    def test_seen_tells_of_my_own_posts_too(self):
        got = ask_last(load(0, self.row), post(0, b"a"), receive(0, post_letter(1, 0, stamp(n0=1))))
        self.assertEqual(got, sent(seen_letter(0, 1, stamp(n0=4, n1=8, n2=HIGHEST - 3))))

    def test_a_count_to_32_above_what_is_seen_waits(self):
        for count in (5, 6, 35, 36):
            with self.subTest(count=count):
                numbers = stamp(n0=count, n1=HIGHEST, n2=9)
                got = ask(load(0, self.row), receive(0, post_letter(1, 0, numbers, text(31))), save(0))
                self.assertEqual(got[1:], [[0], self.kept({0: [(numbers, text(31))]})])

    def test_a_count_of_33_above_and_more_does_nothing(self):
        for count in (37, 38, 4 + 256, HIGHEST):
            with self.subTest(count=count):
                got = ask(load(0, self.row), receive(0, post_letter(1, 0, stamp(n0=count), b"hi"), 0), save(0))
                self.assertEqual(got[1:], [[0], [0] + self.row])

    def test_the_last_counts_there_are_wait(self):
        numbers = stamp(n2=HIGHEST)
        got = ask(load(0, self.row), receive(0, post_letter(1, 2, numbers)), save(0))
        self.assertEqual(got[1:], [[0], self.kept({2: [(numbers, b"")]})])

    def test_a_letter_that_comes_twice_waits_once(self):
        letter = post_letter(1, 0, stamp(n0=6), b"hi")
        got = ask(load(0, self.row), receive(0, letter), receive(0, letter, 0), save(0))
        self.assertEqual(got[1:], [[0], [0], self.kept({0: [(stamp(n0=6), b"hi")]})])

    def test_of_two_posts_of_one_count_the_first_waits(self):
        first = post_letter(1, 0, stamp(n0=6), b"first")
        second = post_letter(1, 0, stamp(n0=6, n2=1), b"second")
        got = ask(load(0, self.row), receive(0, first), receive(0, second), save(0))
        self.assertEqual(got[1:], [[0], [0], self.kept({0: [(stamp(n0=6), b"first")]})])

    def test_posts_wait_in_order_of_their_counts(self):
        order = [9, 5, 36, 7, 6, 20, 5, 8]
        letters = [post_letter(1, 0, stamp(n0=count), [count]) for count in order]
        got = ask(load(0, self.row), *[receive(0, letter) for letter in letters], save(0))
        waits = [(stamp(n0=count), [count]) for count in (5, 6, 7, 8, 9, 20, 36)]
        self.assertEqual(got[-1], self.kept({0: waits}))

    def test_32_posts_of_one_author_wait(self):
        letters = [post_letter(1, 0, stamp(n0=count), [count]) for count in range(37, 0, -1)]
        got = ask(begin(0, 1, 3), *[receive(0, letter) for letter in letters], save(0))
        self.assertEqual(got[1:-1], [[0]] * 37)
        waits = [(stamp(n0=count), [count]) for count in range(1, 33)]
        self.assertEqual(got[-1], [0] + saved(1, 3, waits={0: waits}))

    def test_posts_of_each_author_wait_apart(self):
        calls = [receive(0, post_letter(3, j, stamp_of(j, 2), [j])) for j in range(8) if j != 3]
        got = ask_last(begin(0, 3, 8), *calls, save(0))
        waits = {j: [(stamp_of(j, 2), [j])] for j in range(8) if j != 3}
        self.assertEqual(got, [0] + saved(3, 8, waits=waits))

    def test_texts_of_0_to_31_bytes_wait_as_they_came(self):
        for length in range(32):
            words = [0] * (length // 2) + text(length - length // 2)
            got = ask_last(begin(0, 0, 2), receive(0, post_letter(0, 1, stamp(n1=1), words)), save(0))
            self.assertEqual(got, [0] + saved(0, 2, waits={1: [(stamp(n1=1), words)]}))

    def test_a_post_teaches_nothing_of_what_its_author_has_seen(self):
        mine = [(stamp(n0=1), b"a")]
        row = saved(0, 2, stamp(n0=1, n1=1), mine=mine)
        for count in (1, 2):
            got = ask_last(load(0, row), receive(0, post_letter(0, 1, stamp(n0=1, n1=count))), save(0))
            waits = {1: [(stamp(n0=1, n1=2), b"")]} if count == 2 else {}
            self.assertEqual(got, [0] + saved(0, 2, stamp(n0=1, n1=1), mine=mine, waits=waits))

    def test_most_just_enough_and_one_too_small(self):
        letter = post_letter(1, 0, stamp(n0=4))
        got = ask(load(0, self.row), receive(0, letter, 67), receive(0, letter, 0), save(0), receive(0, letter, 68))
        self.assertEqual(got[1:], [[-7], [-7], [0] + self.row, sent(seen_letter(0, 1, self.seen))])


class ReceiveSeen(unittest.TestCase):
    def test_what_is_known_is_of_each_node_the_greater(self):
        known = {0: stamp(n0=5, n1=9, n2=0), 2: stamp(n0=1, n1=1, n2=1)}
        row = saved(1, 3, known=known)
        got = ask(load(0, row), receive(0, seen_letter(1, 0, stamp(n0=6, n1=8, n2=HIGHEST)), 0), save(0))
        after = {0: stamp(n0=6, n1=9, n2=HIGHEST), 2: stamp(n0=1, n1=1, n2=1)}
        self.assertEqual(got[1:], [[0], [0] + saved(1, 3, known=after)])

    def test_a_seen_that_comes_twice_or_late_changes_nothing(self):
        newer = seen_letter(0, 1, stamp(n0=3, n1=4))
        older = seen_letter(0, 1, stamp(n0=2, n1=1))
        got = ask(begin(0, 0, 2), receive(0, newer), save(0), receive(0, newer), receive(0, older), save(0))
        self.assertEqual(got[2], [0] + saved(0, 2, known={1: stamp(n0=3, n1=4)}))
        self.assertEqual(got[3:], [[0], [0], got[2]])

    def test_a_seen_does_not_change_what_is_seen(self):
        got = ask_last(begin(0, 0, 2), receive(0, seen_letter(0, 1, stamp(n0=3, n1=4))), save(0))
        self.assertEqual(got, [0] + saved(0, 2, known={1: stamp(n0=3, n1=4)}))

    def test_of_two_nodes_posts_go_when_the_other_has_seen_them(self):
        mine = [(stamp(n0=count), [count]) for count in range(1, 5)]
        row = saved(0, 2, stamp(n0=4), mine=mine)
        for number, left in ((0, 4), (1, 3), (3, 1), (4, 0), (5, 0), (HIGHEST, 0)):
            with self.subTest(number=number):
                got = ask(load(0, row), receive(0, seen_letter(0, 1, stamp(n0=number))), save(0))
                after = saved(0, 2, stamp(n0=4), {1: stamp(n0=number)}, mine[4 - left:])
                self.assertEqual(got[1:], [[0], [0] + after])

    def test_posts_are_kept_till_all_others_have_seen_them(self):
        got = ask(begin(0, 1, 4), post(0, b"a"), post(0, b"b"), post(0, b"c"),
                  receive(0, seen_letter(1, 0, stamp(n1=3))), receive(0, seen_letter(1, 3, stamp(n1=2))), save(0),
                  receive(0, seen_letter(1, 2, stamp(n1=1))), save(0),
                  receive(0, seen_letter(1, 2, stamp(n1=9))), save(0),
                  receive(0, seen_letter(1, 3, stamp(n1=3))), save(0))
        mine = [(stamp(n1=1), b"a"), (stamp(n1=2), b"b"), (stamp(n1=3), b"c")]
        known = {0: stamp(n1=3), 3: stamp(n1=2)}
        self.assertEqual(got[6], [0] + saved(1, 4, stamp(n1=3), known, mine))
        known[2] = stamp(n1=1)
        self.assertEqual(got[8], [0] + saved(1, 4, stamp(n1=3), known, mine[1:]))
        known[2] = stamp(n1=9)
        self.assertEqual(got[10], [0] + saved(1, 4, stamp(n1=3), known, mine[2:]))
        known[3] = stamp(n1=3)
        self.assertEqual(got[12], [0] + saved(1, 4, stamp(n1=3), known))

    def test_only_what_is_known_of_mine_counts(self):
        mine = [(stamp(n0=1), b"a")]
        got = ask_last(load(0, saved(0, 2, stamp(n0=1), mine=mine)),
                       receive(0, seen_letter(0, 1, stamp(n1=HIGHEST))), save(0))
        self.assertEqual(got, [0] + saved(0, 2, stamp(n0=1), {1: stamp(n1=HIGHEST)}, mine))


class ReceiveWrong(unittest.TestCase):
    """Each wrong letter is refused with -3, and all is as it was, whatever most is."""

    def setUp(self):
        self.row = saved(1, 3, stamp(n0=4, n1=1, n2=2), {0: stamp(n0=1)}, [(stamp(n0=4, n1=1), b"x")],
                         {2: [(stamp(n2=4), b"y")]})
        self.post = post_letter(1, 0, stamp(n0=5), b"hi")
        self.seen = seen_letter(1, 0, stamp(n0=5, n1=1))

    def refuse(self, letter):
        for most, refusal in ((1000, -3), (0, -3), (-1, -2)):
            got = ask(load(0, self.row), receive(0, letter, most), save(0))
            self.assertEqual(got[1:], [[refusal], [0] + self.row])

    def change(self, letter, place, value):
        letter = list(letter)
        letter[place] = value
        return letter

    def test_the_letters_are_right_without_a_change(self):
        self.assertEqual(ask(load(0, self.row), receive(0, self.post), receive(0, self.seen)), [[0], [0], [0]])

    def test_its_length(self):
        for letter in (self.post, self.seen):
            for wrong in ([], letter[:1], letter[:4], letter[:-1], letter + [0], letter + [0] * 32,
                          letter + letter, letter + [0] * (1024 - len(letter))):
                self.refuse(wrong)
        self.refuse(self.post[:68])
        self.refuse(self.seen + [0] * 32)

    def test_for_whom(self):
        for letter in (self.post, self.seen):
            for to in (0, 2, 3, 255):
                self.refuse(self.change(letter, 0, to))

    def test_its_second_byte(self):
        for letter in (self.post, self.seen):
            for second in (0, 3, 255):
                self.refuse(self.change(letter, 1, second))
        self.refuse(self.change(self.post, 1, 2))
        self.refuse(self.change(self.seen, 1, 1))

    def test_from_whom(self):
        every = stamp(n0=9, n1=9, n2=9)
        for sender in (1, 3, 4, 7, 8, 255):
            self.refuse(post_letter(1, sender, every, b"hi"))
            self.refuse(seen_letter(1, sender, every))

    def test_how_long_the_text_is(self):
        for length in (32, 33, 255):
            self.refuse(self.change(self.post, 3, length))
            self.refuse(self.change(post_letter(1, 0, stamp(n0=5), text(31)), 3, length))

    def test_0s_behind_the_text(self):
        for place in (70, 71, 98, 99):
            self.refuse(self.change(self.post, place, 1))
        self.refuse(self.change(self.post, 3, 1))
        self.refuse(self.change(self.post, 3, 0))
        self.refuse(self.change(post_letter(1, 0, stamp(n0=5), text(31)), 99, 255))

    def test_the_fourth_byte_of_a_seen(self):
        for fourth in (1, 31, 255):
            self.refuse(self.change(self.seen, 3, fourth))

    def test_the_stamp(self):
        for number in (HIGHEST + 1, 2 ** 63, 2 ** 64 - 1):
            for j in range(3):
                place = 4 + 8 * j
                for letter in (self.post, self.seen):
                    self.refuse(letter[:place] + eight(number) + letter[place + 8:])

    def test_the_stamp_of_nodes_there_are_not(self):
        for j in range(3, 8):
            for part in (0, 7):
                self.refuse(self.change(self.post, 4 + 8 * j + part, 1))
                self.refuse(self.change(self.seen, 4 + 8 * j + part, 1))

    def test_a_count_of_0(self):
        self.refuse(post_letter(1, 0, stamp(n1=1, n2=3), b"hi"))

    def test_most_below_0_comes_first(self):
        for most in (-1, LEAST):
            for letter in (self.post, self.seen, post_letter(1, 0, stamp(n0=1))):
                got = ask(load(0, self.row), receive(0, letter, most), save(0))
                self.assertEqual(got[1:], [[-2], [0] + self.row])

    def test_a_letter_longer_than_1024_is_refused(self):
        got = ask(begin(0, 1, 2), receive(0, self.post + [0] * 925), save(0))
        self.assertEqual(got[1:], [[-2], [0] + saved(1, 2)])


if __name__ == "__main__":
    unittest.main()
