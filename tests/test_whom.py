"""Promise 3: to whom po_again and po_tell may send, and most."""

import unittest

from asking import LEAST, MOST, again, ask, begin, post, save, tell


class Refused(unittest.TestCase):
    def refuse(self, me, n, to, most=MOST):
        for call in (again(0, to, most), tell(0, to, most)):
            with self.subTest(call=call, me=me, n=n):
                got = ask(begin(0, me, n), post(0, b"a"), save(0), call, save(0))
                self.assertEqual(got[3], [-2])
                self.assertEqual(got[4], got[2])

    def test_to_is_not_another_node(self):
        for n in range(2, 9):
            for me in (0, n // 2, n - 1):
                for to in (me, -1, -2, me - n, -8, n, n + 1, 8, 9, 255, 256, 256 + (me + 1) % n, LEAST, MOST):
                    if not 0 <= to < n or to == me:
                        self.refuse(me, n, to)

    def test_most_below_0(self):
        for most in (-1, -2, LEAST):
            for to in (1, 0, -1, 2):
                self.refuse(0, 2, to, most)

    def test_most_below_0_where_none_are_to_be_sent(self):
        got = ask(begin(0, 0, 2), again(0, 1, -1), again(0, 1, 0), tell(0, 1, -1))
        self.assertEqual(got[1:], [[-2], [0], [-2]])

    def test_2_comes_ahead_of_7(self):
        for to, most in ((0, 0), (2, 67), (2, 0), (-1, 0)):
            self.refuse(0, 2, to, most)


if __name__ == "__main__":
    unittest.main()
