"""The interface: what is handed in, what is given back, and the eight objects."""

import unittest

from asking import ask, begin, load, post, post_letter, receive, save, saved, seen_letter, sent, stamp, stamp_of
from postorder.nodes import answers


class Answers(unittest.TestCase):
    def test_each_answer_has_how_many_numbers_it_has_before_it(self):
        calls = begin(0, 0, 9) + begin(0, 0, 2) + post(0, [5], 99) + post(0, [5], 100)
        letter = post_letter(1, 0, stamp(n0=1), [5])
        self.assertEqual(answers(calls), [1, -2, 1, 0, 1, -7, 101, 100] + letter)

    def test_of_a_save_all_bytes_come_behind_the_0(self):
        self.assertEqual(answers(begin(0, 1, 3) + save(0)), [1, 0, 30609, 0] + saved(1, 3))

    def test_a_load_has_one_number(self):
        self.assertEqual(answers(load(0, saved(1, 3))), [1, 0])
        self.assertEqual(answers(load(0, saved(3, 3))), [1, -3])

    def test_a_letter_that_sends_nothing_has_one_number(self):
        calls = begin(0, 0, 2) + receive(0, seen_letter(0, 1, stamp(n1=1))) + receive(0, [])
        self.assertEqual(answers(calls), [1, 0, 1, 0, 1, -3])

    def test_400_calls(self):
        got = ask(begin(0, 0, 2), *[receive(0, post_letter(0, 1, stamp(n1=40)), 0)] * 250, *[begin(1, 0, 2)] * 149)
        self.assertEqual(got, [[0]] * 400)

    def test_the_list_handed_in_stays_as_it_was(self):
        calls = begin(0, 0, 2) + post(0, [1, 2]) + receive(0, post_letter(0, 1, stamp(n1=1), [3]))
        calls += receive(0, seen_letter(0, 1, stamp(n0=1))) + post(0, [], -1) + save(0)
        for handed in (calls, load(0, saved(0, 2, stamp(n0=1), mine=[(stamp(n0=1), b"a")])) + post(0, [4])):
            before = list(handed)
            answers(handed)
            self.assertEqual(handed, before)

    def test_nothing_is_kept_from_one_time_to_the_next(self):
        calls = begin(0, 0, 2) + post(0, [1]) + receive(0, post_letter(0, 1, stamp(n1=1))) + save(0)
        first = answers(calls)
        kept = list(first)
        first[0] = 77
        self.assertEqual(answers(calls), kept)


class Apart(unittest.TestCase):
    def test_eight_objects_stay_apart(self):
        begins = [begin(place, place, 8) for place in range(8)]
        posts = [post(place, [place, k]) for k in range(2) for place in range(8)]
        late = [receive(place, post_letter(place, (place + 1) % 8, stamp_of((place + 1) % 8, 3), [place]))
                for place in range(8)]
        told = [receive(place, seen_letter(place, (place + 2) % 8, stamp_of(place, place)))
                for place in range(8)]
        got = ask(*begins, *posts, *late, *told, *[save(place) for place in range(8)])
        for place in range(8):
            with self.subTest(place=place):
                after = (place + 1) % 8
                mine = [(stamp_of(place, k + 1), [place, k]) for k in range(2)]
                row = saved(place, 8, stamp_of(place, 2), {(place + 2) % 8: stamp_of(place, place)},
                            mine, {after: [(stamp_of(after, 3), [place])]})
                self.assertEqual(got[40 + place], [0] + row)

    def test_objects_of_one_me_stay_apart(self):
        got = ask(begin(0, 0, 2), begin(7, 0, 2), post(0, b"a"), post(7, b"b"), post(7, b"c"), save(0), save(7))
        self.assertEqual(got[2:4], [sent(post_letter(1, 0, stamp(n0=1), b"a")),
                                    sent(post_letter(1, 0, stamp(n0=1), b"b"))])
        self.assertEqual(got[5], [0] + saved(0, 2, stamp(n0=1), mine=[(stamp(n0=1), b"a")]))
        self.assertEqual(got[6], [0] + saved(0, 2, stamp(n0=2), mine=[(stamp(n0=1), b"b"), (stamp(n0=2), b"c")]))

    def test_a_load_into_one_leaves_the_others(self):
        row = saved(1, 3, stamp(n1=1), mine=[(stamp(n1=1), b"x")])
        got = ask(begin(0, 0, 2), post(0, b"a"), load(1, row), post(1, b"y"), save(0), save(1))
        self.assertEqual(got[4], [0] + saved(0, 2, stamp(n0=1), mine=[(stamp(n0=1), b"a")]))
        mine = [(stamp(n1=1), b"x"), (stamp(n1=2), b"y")]
        self.assertEqual(got[5], [0] + saved(1, 3, stamp(n1=2), mine=mine))

    def test_a_letter_that_one_sends_another_takes(self):
        first = ask(begin(0, 0, 2), post(0, b"a"))[1][1:]
        got = ask(begin(1, 1, 2), receive(1, first), save(1))
        self.assertEqual(got[1:], [[0], [0] + saved(1, 2, waits={0: [(stamp(n0=1), b"a")]})])


if __name__ == "__main__":
    unittest.main()
