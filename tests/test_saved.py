"""Promise 2: po_save and po_load."""

import unittest

from asking import (HIGHEST, KNOWN_AT, ROW_LENGTH, ROWS_AT, SEEN_AT, ask, ask_last, begin, eight, load, post,
                    post_letter, receive, save, saved, seen_letter, sent, stamp, stamp_of, text)


def put(row, place, part):
    return row[:place] + part + row[place + len(part):]


def row_at(k):
    return ROWS_AT + ROW_LENGTH * k


class SaveAndLoad(unittest.TestCase):
    def come_back(self, row):
        self.assertEqual(ask(load(0, row), save(0)), [[0], [0] + row])

    def test_every_me_of_every_n_comes_back(self):
        for n in range(2, 9):
            for me in range(n):
                self.come_back(saved(me, n))

    def test_all_that_a_node_keeps_comes_back(self):
        seen = stamp(n0=2 ** 33, n1=HIGHEST, n2=12, n3=7)
        known = {0: stamp(n0=1, n1=2, n2=3, n3=4), 1: stamp(n0=HIGHEST, n3=HIGHEST), 3: stamp(n2=99)}
        mine = [(stamp(n0=1, n2=11), text(31)), (stamp(n1=HIGHEST, n2=12), [])]
        waits = {0: [(stamp(n0=2 ** 33 + 1), [0, 0]), (stamp(n0=2 ** 33 + 32), text(31, 200))],
                 3: [(stamp(n0=HIGHEST, n2=HIGHEST, n3=9), [255])]}
        self.come_back(saved(2, 4, seen, known, mine, waits))

    def test_rows_of_32_posts_come_back(self):
        mine = [(stamp(n7=count), text(count % 32)) for count in range(9, 41)]
        waits = {j: [(stamp_of(j, count), text(31)) for count in range(1, 33)] for j in range(7)}
        self.come_back(saved(7, 8, stamp(n7=40), mine=mine, waits=waits))

    def test_edges_that_are_still_so(self):
        top = [(stamp(n0=HIGHEST - 1), b"a"), (stamp(n0=HIGHEST), b"b")]
        self.come_back(saved(0, 2, stamp(n0=HIGHEST), mine=top))
        self.come_back(saved(0, 2, stamp(n1=HIGHEST - 1), waits={1: [(stamp(n1=HIGHEST), b"")]}))
        self.come_back(saved(0, 2, stamp(n0=1), {1: stamp(n0=HIGHEST, n1=HIGHEST)}, [(stamp(n0=1), b"")]))
        self.come_back(saved(0, 2, stamp(n0=1), mine=[(stamp(n0=1), b"")]))
        self.come_back(saved(1, 2, stamp(n1=32), mine=[(stamp(n1=count), b"") for count in range(1, 33)]))

    def test_a_save_changes_nothing(self):
        got = ask(begin(0, 0, 2), post(0, b"a"), save(0), save(0))
        self.assertEqual(got[2], got[3])

    def test_a_node_goes_on_as_it_was(self):
        calls = [post(0, b"one"), receive(0, post_letter(0, 1, stamp(n1=2), b"two")),
                 receive(0, seen_letter(0, 2, stamp(n0=1, n2=3))), post(0, b"three")]
        later = [post(0, b"four"), receive(0, seen_letter(0, 1, stamp(n0=2))),
                 receive(0, post_letter(0, 1, stamp(n1=1), b"five")), save(0)]
        row = ask_last(begin(0, 0, 3), *calls, save(0))[1:]
        self.assertEqual(ask(load(0, row), *later)[1:], ask(begin(0, 0, 3), *calls, *later)[5:])

    def test_what_was_there_is_gone(self):
        got = ask_last(begin(0, 0, 2), post(0, b"a"), load(0, saved(2, 3)), save(0))
        self.assertEqual(got, [0] + saved(2, 3))

    def test_what_is_loaded_is_used(self):
        row = saved(1, 2, stamp(n0=3, n1=4), waits={0: [(stamp(n0=5), b"x")]})
        got = ask(load(0, row), receive(0, post_letter(1, 0, stamp(n0=3))),
                  receive(0, post_letter(1, 0, stamp(n0=5), b"other")), save(0))
        self.assertEqual(got[1:], [sent(seen_letter(0, 1, stamp(n0=3, n1=4))), [0], [0] + row])


class LoadRefused(unittest.TestCase):
    """Each thing that's asked of the saved bytes is broken by itself in a row that's else so."""

    def setUp(self):
        self.me = 1
        self.n = 4
        self.seen = stamp(n0=5, n1=7, n2=9, n3=2)
        self.known = {0: stamp(n0=1, n1=2), 2: stamp(n2=3), 3: stamp(n3=1)}
        self.mine = [(stamp(n0=4, n1=6), b"six"), (stamp(n0=5, n1=7), b"seven")]
        self.waits = {0: [(stamp(n0=6), b"a"), (stamp(n0=8, n3=4), b"b")], 3: [(stamp(n3=34), text(31))]}
        self.row = self.build()

    def build(self, **changed):
        parts = {"seen": self.seen, "known": self.known, "mine": self.mine, "waits": self.waits}
        parts.update(changed)
        return saved(self.me, self.n, **parts)

    def refuse(self, row):
        self.assertEqual(len(row), 30608)
        self.assertNotEqual(row, self.row)
        got = ask(begin(0, 0, 2), post(0, b"kept"), save(0), load(0, row), save(0))
        self.assertEqual(got[3], [-3])
        self.assertEqual(got[4], got[2])

    def refuse_at(self, place, value):
        self.refuse(put(self.row, place, [value]))

    def test_it_is_so_without_a_change(self):
        self.assertEqual(ask(load(0, self.row)), [[0]])

    def test_me_and_n(self):
        for me, n in ((0, 0), (0, 1), (1, 1), (2, 2), (8, 8), (0, 9), (8, 9), (255, 8), (0, 255), (255, 255)):
            self.refuse(saved(me, n))
        self.refuse_at(0, 4)
        self.refuse_at(1, 1)
        self.refuse_at(1, 9)

    def test_six_0s(self):
        for place in range(2, 8):
            self.refuse_at(place, 1)

    def test_what_is_seen_is_a_stamp(self):
        for j in range(4):
            if j != 1:
                self.refuse(put(saved(1, 4), SEEN_AT + 8 * j, eight(HIGHEST + 1)))
        self.refuse(put(saved(1, 4), SEEN_AT + 8, eight(2 ** 64 - 1)))
        for j in range(4, 8):
            self.refuse_at(SEEN_AT + 8 * j, 1)
            self.refuse_at(SEEN_AT + 8 * j + 7, 1)

    def test_what_is_known_is_a_stamp(self):
        for j in (0, 2, 3):
            at = KNOWN_AT + 64 * j
            for k in range(4):
                self.refuse(put(self.row, at + 8 * k, eight(HIGHEST + 1)))
            for k in range(4, 8):
                self.refuse_at(at + 8 * k, 1)

    def test_0s_known_of_me_and_of_nodes_there_are_not(self):
        for j in (1, 4, 5, 6, 7):
            for place in (0, 8, 31, 63):
                self.refuse_at(KNOWN_AT + 64 * j + place, 1)

    def test_how_many_posts(self):
        for k in range(9):
            for many in (33, 256, 2 ** 32, 2 ** 63, 2 ** 64 - 1):
                self.refuse(put(self.row, row_at(k), eight(many)))
        # One fewer than there are leaves something else than 0s behind them, too.
        self.refuse(put(self.row, row_at(0), eight(1)))
        self.refuse(put(self.row, row_at(1), eight(0)))
        self.refuse(put(self.row, row_at(1), eight(1)))

    def test_0s_up_to_32_posts(self):
        for k, many in ((0, 2), (1, 2), (2, 0), (3, 0), (4, 1), (5, 0), (8, 0)):
            self.refuse_at(row_at(k) + 8 + 104 * many, 1)
            self.refuse_at(row_at(k) + ROW_LENGTH - 1, 1)

    def test_none_wait_of_me_and_of_nodes_there_are_not(self):
        self.refuse(self.build(waits={**self.waits, 1: [(stamp(n1=8), b"")]}))
        for j in range(4, 8):
            self.refuse(self.build(waits={**self.waits, j: [([0] * 8, b"")]}))
            self.refuse(self.build(waits={**self.waits, j: [(stamp_of(j, 1), b"")]}))

    def test_the_stamps_of_mine(self):
        for j in (0, 2, 3):
            self.refuse(put(self.row, row_at(0) + 8 + 8 * j, eight(HIGHEST + 1)))
        for j in range(4, 8):
            self.refuse(put(self.row, row_at(0) + 8 + 104 + 8 * j, eight(1)))

    def test_the_stamps_of_those_that_wait(self):
        for j in range(1, 4):
            self.refuse(put(self.row, row_at(1) + 8 + 8 * j, eight(HIGHEST + 1)))
        for j in range(4, 8):
            self.refuse(put(self.row, row_at(4) + 8 + 8 * j, eight(1)))
        self.refuse(self.build(seen=stamp(n1=7, n3=HIGHEST), waits={3: [(stamp(n3=HIGHEST + 1), b"")]}))

    def test_the_counts_of_mine_rise_by_one_up_to_what_is_seen(self):
        for counts in ([5, 6], [7, 8], [5, 7], [7, 7], [6, 6], [7, 6], [8, 7], [6], [8], [5, 6, 8], [6, 7, 7]):
            mine = [(stamp(n1=count), b"") for count in counts]
            self.refuse(self.build(mine=mine))
        self.refuse(saved(0, 2, mine=[(stamp(n0=1), b"")]))
        self.refuse(saved(0, 2, stamp(n0=HIGHEST), mine=[(stamp(n0=HIGHEST - 1), b"")]))

    def test_no_more_of_mine_are_kept_than_were_seen(self):
        for me, seen in ((0, 0), (0, 1), (1, 2), (3, 5), (2, 30), (3, 31)):
            first = [(stamp_of(me, count), [count]) for count in range(seen + 1)]
            self.refuse(saved(me, 4, stamp_of(me, seen), mine=first))
            others_seen = [9] * 4 + [0] * 4
            others_seen[me] = seen
            known = {j: [HIGHEST] * 4 + [0] * 4 for j in range(4) if j != me}
            self.refuse(saved(me, 4, others_seen, known, first))

    def test_the_counts_of_those_that_wait_rise_within_32_above(self):
        for counts in ([5], [4, 6], [0], [6, 6], [7, 6], [6, 8, 7], [38], [6, 38], [37, 37], [HIGHEST]):
            waits = [(stamp(n0=count), b"") for count in counts]
            self.refuse(self.build(waits={0: waits}))
        for counts in ([6], [37], [6, 37], [10, 11, 20]):
            row = self.build(waits={0: [(stamp(n0=count), b"") for count in counts]})
            self.assertEqual(ask(load(0, row), save(0)), [[0], [0] + row])

    def test_texts_are_of_up_to_31_bytes(self):
        for k, post_at in ((0, 0), (0, 1), (1, 1), (4, 0)):
            at = row_at(k) + 8 + 104 * post_at + 64
            for length in (32, 33, 31 + 256, 2 ** 32, 2 ** 64 - 1):
                self.refuse(put(self.row, at, eight(length)))

    def test_0s_behind_the_text(self):
        for k, post_at, length in ((0, 0, 3), (0, 1, 5), (1, 0, 1), (4, 0, 31)):
            at = row_at(k) + 8 + 104 * post_at + 72
            self.refuse_at(at + length, 1)
            self.refuse_at(at + 31, 1)
        self.refuse(put(self.row, row_at(0) + 8 + 64, eight(2)))

    def test_a_refused_load_leaves_an_object_unbegun(self):
        got = ask(load(5, put(self.row, 2, [1])), begin(5, 0, 2), save(5))
        self.assertEqual(got, [[-3], [0], [0] + saved(0, 2)])


if __name__ == "__main__":
    unittest.main()
