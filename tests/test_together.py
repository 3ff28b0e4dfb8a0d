"""All nine calls together: nodes that send letters to one another, over the eight objects."""

import unittest

from asking import (HIGHEST, MOST, again, ask, ask_last, begin, load, look, post, post_letter, receive, save, saved,
                    seen_letter, sent, show, shown, stamp, tell, text)
from postorder.nodes import answers


class Talk:
    """Calls one behind another, each asked with all that came ahead of it."""

    def __init__(self):
        self.calls = []

    def do(self, call):
        self.calls.append(call)
        return ask_last(*self.calls)


def letters_in(answer):
    """The letters that an answer sends, cut apart by their second byte."""
    row = answer[1:]
    assert answer[0] == len(row)
    letters = []
    while row:
        length = {1: 100, 2: 68}[row[1]]
        letters.append(row[:length])
        row = row[length:]
    return letters


def stamp_in(letter):
    return [int.from_bytes(bytes(letter[4 + 8 * j:12 + 8 * j]), "little") for j in range(8)]


class Nodes:
    """Node j of n is object place_of[j]. Letters lie about until they're given to whom they're for."""

    def __init__(self, n, place_of):
        self.n = n
        self.place_of = place_of
        self.talk = Talk()
        self.letters = []
        self.stamps = {}
        self.texts = {}
        self.order = [[] for j in range(n)]
        for j in range(n):
            assert self.talk.do(begin(place_of[j], j, n)) == [0]

    def post(self, j, words):
        letters = letters_in(self.talk.do(post(self.place_of[j], words)))
        assert [letter[0] for letter in letters] == [to for to in range(self.n) if to != j]
        numbers = stamp_in(letters[0])
        name = (j, numbers[j])
        self.stamps[name] = numbers
        self.texts[name] = list(words)
        self.order[j].append(name)
        self.letters += letters

    def give(self, letter):
        self.letters += letters_in(self.talk.do(receive(self.place_of[letter[0]], letter)))

    def give_all(self, order):
        while self.letters:
            self.give(self.letters.pop(order(len(self.letters))))

    def show_all(self, j):
        answer = self.talk.do(show(self.place_of[j]))
        while answer != [-4]:
            author = answer[1]
            count = 1 + len([name for name in self.order[j] if name[0] == author])
            assert answer == shown(author, self.texts[(author, count)])
            self.order[j].append((author, count))
            answer = self.talk.do(show(self.place_of[j]))

    def send_again(self, j, to):
        self.letters += letters_in(self.talk.do(again(self.place_of[j], to)))

    def tell(self, j, to):
        self.letters += letters_in(self.talk.do(tell(self.place_of[j], to)))

    def seen(self, j):
        return self.talk.do(look(self.place_of[j]))[1:]


def last(length):
    return length - 1


def first(length):
    return 0


def middle(length):
    return length // 2


class Order(unittest.TestCase):
    def check_order(self, nodes):
        """All posts are shown by all, each behind those that its author had shown when it was written."""
        for j in range(nodes.n):
            self.assertEqual(sorted(nodes.order[j]), sorted(nodes.stamps))
            counts = [0] * 8
            for author, count in nodes.order[j]:
                self.assertEqual(count, counts[author] + 1)
                for other, number in enumerate(nodes.stamps[(author, count)]):
                    if other != author:
                        self.assertLessEqual(number, counts[other])
                counts[author] = count
            self.assertEqual(nodes.seen(j), counts)

    def check_done(self, nodes):
        """Behind a Seen from each to each nothing is kept, waits or is to be sent again."""
        for j in range(nodes.n):
            for to in range(nodes.n):
                if to != j:
                    nodes.tell(j, to)
        nodes.give_all(first)
        seen = nodes.seen(0)
        for j in range(nodes.n):
            known = {to: seen for to in range(nodes.n) if to != j}
            for to in known:
                self.assertEqual(nodes.talk.do(again(nodes.place_of[j], to, 0)), [0])
            row = nodes.talk.do(save(nodes.place_of[j]))
            self.assertEqual(row, [0] + saved(j, nodes.n, seen, known))

    def test_a_question_and_its_answer_in_any_order(self):
        for order in (first, last, middle):
            nodes = Nodes(3, [4, 0, 7])
            nodes.post(0, b"question")
            nodes.give(nodes.letters.pop(0))
            nodes.show_all(1)
            nodes.post(1, b"answer")
            nodes.post(2, b"by itself")
            nodes.give_all(order)
            for j in range(3):
                nodes.show_all(j)
            self.check_order(nodes)
            self.check_done(nodes)
            self.assertLess(nodes.order[2].index((0, 1)), nodes.order[2].index((1, 1)))

    def test_letters_that_come_late(self):
        for order in (first, last, middle):
            nodes = Nodes(4, [3, 2, 1, 0])
            for k in range(3):
                for j in range(4):
                    nodes.post(j, [j, k])
                    nodes.give(nodes.letters.pop(order(len(nodes.letters))))
                    nodes.show_all((j + k) % 4)
            nodes.give_all(order)
            for j in range(4):
                nodes.show_all(j)
            self.check_order(nodes)
            self.check_done(nodes)

    def test_letters_that_are_lost_are_sent_again(self):
        nodes = Nodes(3, [1, 5, 6])
        for k in range(4):
            for j in range(3):
                nodes.post(j, text(k, 97 + 7 * j))
                # Of each post but one letter comes, and another one each time.
                kept = nodes.letters[(j + k) % 2]
                nodes.letters = []
                nodes.give(kept)
                nodes.show_all(kept[0])
        self.assertNotEqual(len(nodes.order[0]), len(nodes.stamps))
        for j in range(3):
            for to in range(3):
                if to != j:
                    nodes.send_again(j, to)
        nodes.give_all(last)
        for j in range(3):
            nodes.show_all(j)
        self.check_order(nodes)
        self.check_done(nodes)

    def test_letters_that_come_twice(self):
        nodes = Nodes(3, [7, 6, 5])
        for k in range(2):
            for j in range(3):
                nodes.post(j, [k, j])
        nodes.letters = nodes.letters + nodes.letters[::-1] + nodes.letters[::2]
        nodes.give_all(middle)
        for j in range(3):
            nodes.show_all(j)
            for to in range(3):
                if to != j:
                    nodes.send_again(j, to)
        # All is shown by now, so each of these is answered with Seen, which ends it.
        nodes.give_all(last)
        self.check_order(nodes)
        self.check_done(nodes)

    def test_eight_nodes(self):
        nodes = Nodes(8, list(range(8)))
        nodes.post(7, b"start")
        nodes.give_all(last)
        for j in range(7):
            nodes.show_all(j)
            nodes.post(j, [j])
        nodes.give_all(middle)
        for j in range(8):
            nodes.show_all(j)
        self.check_order(nodes)


class GoesOn(unittest.TestCase):
    """A node that is saved in the middle and loaded into another object answers on alike."""

    def setUp(self):
        self.ahead = [
            lambda at: begin(at, 1, 3), lambda at: post(at, b"one"),
            lambda at: receive(at, post_letter(1, 0, stamp(n0=2, n1=1), b"two")),
            lambda at: receive(at, post_letter(1, 2, stamp(n0=1, n2=1), b"three")),
            lambda at: receive(at, post_letter(1, 0, stamp(n0=1), b"four")), lambda at: show(at),
            lambda at: receive(at, seen_letter(1, 2, stamp(n1=1, n2=2))), lambda at: post(at, b"five")]
        self.later = [
            lambda at: look(at), lambda at: again(at, 0), lambda at: again(at, 2), lambda at: again(at, 0, 199),
            lambda at: tell(at, 2), lambda at: show(at), lambda at: look(at), lambda at: tell(at, 0, 67),
            lambda at: show(at), lambda at: show(at), lambda at: again(at, 1),
            lambda at: receive(at, post_letter(1, 0, stamp(n0=2, n1=1), b"two")),
            lambda at: receive(at, post_letter(1, 0, stamp(n0=3, n1=2), b"six"), 0), lambda at: post(at, b"seven", 199),
            lambda at: show(at), lambda at: receive(at, seen_letter(1, 0, stamp(n0=3, n1=2))),
            lambda at: receive(at, [1, 2, 3]), lambda at: again(at, 0), lambda at: again(at, 2),
            lambda at: post(at, b"eight"), lambda at: look(at), lambda at: save(at)]

    def test_wherever_it_is_saved(self):
        steps = self.ahead + self.later
        whole = ask(*[step(0) for step in steps])
        self.assertEqual([answer[0] for answer in whole], [
            0, 200, 0, 0, 0, 4, 0, 200,
            0, 200, 100, -7, 68, 3, 0, -7, 5, -4, -2, 68, 0, -7, 3, 0, -3, 0, 100, 200, 0, 0])
        for middle_at in range(1, len(steps)):
            row = ask_last(*[step(0) for step in steps[:middle_at]], save(0))[1:]
            for place in (0, 6):
                got = ask(begin(6, 2, 4), load(place, row), *[step(place) for step in steps[middle_at:]])
                self.assertEqual(got[2:], whole[middle_at:])

    def test_the_loaded_and_the_first_go_on_apart(self):
        ahead = [step(0) for step in self.ahead]
        row = ask_last(*ahead, save(0))[1:]
        later = []
        for step in self.later:
            # Letters are left out, so that the list doesn't grow too long.
            if len(step(0)) < 10:
                later += [step(0), step(3)]
        got = ask(*ahead, load(3, row), *later)[len(ahead) + 1:]
        self.assertEqual(len(got), 38)
        self.assertEqual(got[0::2], got[1::2])


class Refusals(unittest.TestCase):
    """Each refusal is its number alone, and all of every object is as it was."""

    def refusals(self, place):
        """Of a node 1 of 3 that keeps 32 posts, has posts waiting, and can't show any."""
        right = post_letter(1, 0, stamp(n0=4), b"seen")
        return [
            (begin(place, 3, 3), -2), (begin(place, -1, 3), -2), (begin(place, 0, 1), -2), (begin(place, 0, 9), -2),
            (load(place, [])[:2] + [30608] + saved(2, 2), -3),
            (post(place, b"a", -1), -2), (post(place, b"a", 0), -6), (post(place, b"a"), -6),
            (receive(place, right, -1), -2), (receive(place, right[:-1]), -3), (receive(place, right[:-1], 0), -3),
            (receive(place, right, 67), -7), (receive(place, seen_letter(0, 2, stamp(n0=1))), -3),
            (receive(place, seen_letter(1, 2, stamp(n2=HIGHEST + 1))), -3), (show(place), -4),
            (again(place, 1), -2), (again(place, 3), -2), (again(place, 0, -1), -2), (again(place, -1, 0), -2),
            (again(place, 2, 3199), -7), (again(place, 0, 0), -7),
            (tell(place, 1), -2), (tell(place, 3), -2), (tell(place, 0, -1), -2), (tell(place, 0, 67), -7)]

    def row(self):
        mine = [(stamp(n0=2, n1=count), text(count % 32)) for count in range(1, 33)]
        waits = {0: [(stamp(n0=5, n2=1), b"a"), (stamp(n0=6), b"b")], 2: [(stamp(n2=2), b"c")]}
        return saved(1, 3, stamp(n0=4, n1=32), {0: stamp(n0=9), 2: stamp(n2=1)}, mine, waits)

    def test_of_each_call(self):
        row = self.row()
        for call, refusal in self.refusals(5):
            if call[0] == 2:
                ahead, begun = [begin(5, 1, 3), post(5, b"x")], ask_last(begin(5, 1, 3), post(5, b"x"), save(5))
            else:
                ahead, begun = [load(5, row)], [0] + row
            got = ask(*ahead, call, save(5))
            self.assertEqual(got[len(ahead):], [[refusal], begun])

    def test_one_behind_another(self):
        refusals = [pair for pair in self.refusals(2) if pair[0][0] != 2]
        begins = [begin(0, 0, 8), begin(7, 7, 8), post(0, b"of 0"), post(7, b"of 7")]
        ahead = ask(*begins, save(0), save(7))[-2:]
        got = ask(*begins, load(2, self.row()), *[call for call, refusal in refusals], save(2), save(0), save(7))
        self.assertEqual(got[5:-3], [[refusal] for call, refusal in refusals])
        self.assertEqual(got[-3:], [[0] + self.row()] + ahead)

    def test_a_refused_one_can_be_asked_again(self):
        letter = post_letter(0, 1, stamp(n1=1), b"b")
        got = ask(begin(0, 0, 2), post(0, b"a", 99), post(0, b"a", 100), show(0), receive(0, letter), show(0),
                  receive(0, letter, 67), receive(0, letter, 68), again(0, 1, 99), again(0, 1, 100),
                  tell(0, 1, 67), tell(0, 1, 68))
        mine = sent(post_letter(1, 0, stamp(n0=1), b"a"))
        seen = sent(seen_letter(1, 0, stamp(n0=1, n1=1)))
        self.assertEqual(got[1:], [[-7], mine, [-4], [0], shown(1, b"b"), [-7], seen, [-7], mine, [-7], seen])


class HandedIn(unittest.TestCase):
    def setUp(self):
        self.calls = load(1, saved(0, 2, stamp(n0=1), mine=[(stamp(n0=1), b"a")], waits={1: [(stamp(n1=1), b"b")]}))
        for call in (begin(0, 0, 2), post(0, b"hi"), receive(0, post_letter(0, 1, stamp(n1=2), b"late")), show(0),
                     receive(0, post_letter(0, 1, stamp(n1=1), b"soon")), show(0), show(0), show(0), again(0, 1),
                     again(0, 0), tell(0, 1), tell(0, 1, 5), look(0), show(1), post(1, []), again(1, 1), tell(1, 1),
                     look(1), receive(0, seen_letter(0, 1, stamp(n0=1, n1=1))), again(0, 1), save(0), save(1)):
            self.calls += call

    def test_it_stays_as_it_was(self):
        before = list(self.calls)
        answers(self.calls)
        self.assertEqual(self.calls, before)

    def test_nothing_is_kept_from_one_time_to_the_next(self):
        given = answers(self.calls)
        kept = list(given)
        given[:] = [99] * len(given)
        self.assertEqual(answers(self.calls), kept)

    def test_each_answer_has_how_many_numbers_it_has_before_it(self):
        calls = begin(0, 0, 2) + show(0) + look(0) + again(0, 1) + again(0, 0) + tell(0, 1) + tell(0, 1, 67)
        calls += receive(0, post_letter(0, 1, stamp(n1=1), b"hi")) + show(0) + receive(
            0, post_letter(0, 1, stamp(n1=2), b"")) + show(0) + look(0)
        told = [69, 68] + seen_letter(1, 0, [0] * 8)
        self.assertEqual(answers(calls), [1, 0, 1, -4] + [9, 0] + [0] * 8 + [1, 0, 1, -2] + told + [1, -7]
                         + [1, 0, 4, 2, 1, 104, 105, 1, 0, 2, 0, 1] + [9, 0, 0, 2] + [0] * 6)

    def test_400_calls_with_many_numbers(self):
        calls = [post(0, text(31))] * 32
        got = ask(begin(0, 0, 2), *calls, *[again(0, 1)] * 300, *[look(0)] * 60, *[tell(0, 1, MOST)] * 7)
        self.assertEqual(len(got), 400)
        letters = [post_letter(1, 0, stamp(n0=k + 1), text(31)) for k in range(32)]
        self.assertEqual(got[33:333], [sent(*letters)] * 300)
        self.assertEqual(got[333:393], [[0] + stamp(n0=32)] * 60)
        self.assertEqual(got[393:], [sent(seen_letter(1, 0, stamp(n0=32)))] * 7)


if __name__ == "__main__":
    unittest.main()
