"""Lines of 40 calls of all twelve kinds, and what the document promises over the whole program."""

import itertools
import random
import unittest

from comesback.office import answers
from lines import (
    LARGEST, all_seen, ask, back, choose_ours, choose_theirs, gone, last, line, off, open_behind, opened, out,
    package, piece, pieces, pieces_behind, put, send, text,
)
from model import model_answers

BY_HAND = (
    (piece(4, 10), [1, 0, 0]),
    (piece(2, 20), [2, 0, 0]),
    (piece(7, 30), [3, 0, 0]),
    (put(2, 5), [3, 1, 0]),
    (send(7, 2, 4), [0]),
    (send(2), [1]),
    (out(2), [2, 0, 1]),
    (put(4, 6), [3, 2, 0]),
    (text(7, 31), [3, 2, 0]),
    (back(0, (4, 9), (7, 8), (2, 3)), [1, 3, 4, 2]),
    (opened(), [2, 4, 0, 10, 9, 3, 7, 0, 30, 8, 4]),
    (package(0), [0, 3, 7, 30, 8, 2, 20, 3, 4, 10, 9]),
    (pieces(), [3, 4, 10, 6, 2, 20, 3, 7, 31, 0]),
    (back(1, (2, 4)), [0, 3]),
    (back(0, (4, 1)), [0, 3]),
    (opened(), [3, 7, 0, 30, 8, 4, 2, 1, 20, 4, 3, 4, 0, 10, 1, 3]),
    (off(1), [1]),
    (off(1), [-6]),
    (back(1, (4, 2)), [-6]),
    (back(1, (4, 1000)), [-1]),
    (out(2), [1, 0]),
    (choose_theirs(2, 1), [3, 2, 2]),
    (choose_theirs(2, 1), [-2]),
    (package(1), [1, 1, 2, 20, 4]),
    (gone(7), [2, 2, 2]),
    (choose_theirs(7, 0), [-6]),
    (opened(), [2, 7, 0, 30, 8, 5, 4, 0, 10, 1, 3]),
    (choose_ours(7, 0), [2, 2, 1]),
    (out(7), [1, 0]),
    (piece(7, 30), [3, 2, 1]),
    (put(4, 1), [3, 2, 1]),
    (opened(), [1, 4, 0, 10, 1, 0]),
    (gone(4), [2, 1, 1]),
    (piece(4, 11), [3, 1, 1]),
    (pieces(), [3, 2, 20, 4, 7, 30, 0, 4, 11, 0]),
    (send(4), [2]),
    (off(0), [1]),
    (out(4), [1, 2]),
    (package(LARGEST), [-2]),
    (off(LARGEST), [-2]),
)


# How often each kind stands here is how often it is called: enough comes back for something to be open.
KINDS = [0] * 4 + [1] * 2 + [2] * 2 + [3] * 5 + [4] * 2 + [5] * 12 + [6] + [7] * 4 + [8] * 3 + [9, 10, 11]


def some_name(chance):
    if chance.random() < 0.05:
        return chance.choice((12, 99, 100, 999, 1000, LARGEST))
    return chance.randrange(5)


def some_number(chance):
    if chance.random() < 0.05:
        return chance.choice((999, 1000, LARGEST))
    return chance.randrange(3)


def some_package(chance):
    if chance.random() < 0.05:
        return chance.choice((9, 10, LARGEST))
    return chance.randrange(3)


def some_names(chance, most):
    if chance.random() < 0.1:
        return [some_name(chance) for turn in range(chance.choice((0, 2, 9, 20)))]
    return chance.sample(range(5), chance.randrange(1, most + 1))


def some_call(chance):
    kind = chance.choice(KINDS)
    if kind in (0, 1, 3):
        return [kind, some_name(chance), some_number(chance)]
    if kind in (2, 11):
        return [kind, some_name(chance)]
    if kind == 4:
        return send(*some_names(chance, 5))
    if kind == 5:
        return back(some_package(chance), *[(name, some_number(chance)) for name in some_names(chance, 2)])
    if kind in (6, 10):
        return [kind, some_package(chance)]
    if kind == 7:
        return [kind, some_name(chance), some_package(chance), chance.randrange(2)]
    return [kind]


def some_line(seed, length=40):
    """A line of calls; the same for the same seed."""
    chance = random.Random(seed)
    calls = []
    if chance.randrange(4):
        calls = [piece(name, chance.randrange(2)) for name in range(5)]
        calls += [send(4, 2, 0, 1, 3), send(0, 1, 2, 3), send(1, 4)]
    while len(calls) < length:
        calls.append(some_call(chance))
    return calls


class ByHandTest(unittest.TestCase):

    CALLS = [call for call, answer in BY_HAND]

    def test_forty_calls_of_all_twelve_kinds(self):
        self.assertEqual(len(self.CALLS), 40)
        self.assertEqual({call[0] for call in self.CALLS}, set(range(12)))
        for (call, answer), answered in zip(BY_HAND, ask(*self.CALLS), strict=True):
            self.assertEqual(answered, answer, call)

    def test_as_one_list(self):
        expected = []
        for call, answer in BY_HAND:
            expected += [len(answer), *answer]
        self.assertEqual(answers(line(*self.CALLS)), expected)

    def test_the_list_is_the_same_as_before_and_asked_again_gives_the_same(self):
        handed_in = line(*self.CALLS)
        kept = list(handed_in)
        first = answers(handed_in)
        self.assertEqual(handed_in, kept)
        self.assertEqual(answers(handed_in), first)
        self.assertEqual(handed_in, kept)

    def test_each_beginning_of_it_is_answered_alike(self):
        for length in range(1, 41):
            self.assertEqual(ask(*self.CALLS[:length]), [answer for call, answer in BY_HAND[:length]])


class ManyLinesTest(unittest.TestCase):

    LINES = [some_line(seed) for seed in range(600)]

    def test_as_the_document_asks(self):
        for calls in self.LINES:
            self.assertEqual(ask(*calls), model_answers(calls), calls)

    def test_the_lines_hold_each_refusal_and_each_outcome(self):
        refused = set()
        outcomes = set()
        now = set()
        for calls in self.LINES:
            for call, answer in zip(calls, ask(*calls), strict=True):
                if answer[0] < 0:
                    refused.add((call[0], answer[0]))
                elif call[0] == 5:
                    outcomes.update(answer[1:])
                elif call[0] == 8:
                    now.update(answer[5::5])
        self.assertEqual(refused, {
            (0, -1), (0, -4), (1, -1), (1, -2), (2, -2), (3, -1), (3, -2), (4, -1), (4, -2),
            (5, -1), (5, -2), (5, -3), (5, -6), (6, -2), (6, -6), (7, -2), (7, -6), (10, -2),
        })
        self.assertEqual(outcomes, set(range(6)))
        self.assertEqual(now, {0, 3, 4, 5})

    def test_the_lists_are_the_same_as_before_and_asked_again_give_the_same(self):
        for calls in self.LINES[:100]:
            handed_in = line(*calls)
            kept = list(handed_in)
            first = answers(handed_in)
            self.assertEqual(handed_in, kept)
            self.assertEqual(answers(handed_in), first)

    def test_behind_a_refusal_all_is_as_it_was(self):
        for calls in self.LINES[:60]:
            answered = ask(*calls)
            done = [call for call, answer in zip(calls, answered) if answer[0] >= 0]
            self.assertEqual(ask(*done), [answer for answer in answered if answer[0] >= 0])

    def test_how_it_stands_is_what_is_told(self):
        for calls in self.LINES[:60]:
            there = pieces_behind(*calls[:39])
            stood = [len(there), len([row for row in there if row[2]]), len(open_behind(*calls[:39]))]
            for name, number, translation in there[:1]:
                self.assertEqual(last(*calls[:39], text(name, number)), stood)


class PromisesTest(unittest.TestCase):

    LINES = [some_line(seed, 30) for seed in range(1000, 1150)]

    def test_what_comes_twice_is_as_if_it_came_once(self):
        seen = 0
        for calls in self.LINES:
            answered = ask(*calls)
            for at, call in enumerate(calls):
                if call[0] == 5 and answered[at][0] >= 0:
                    twice = ask(*calls[:at + 1], call, *calls[at + 1:])
                    self.assertEqual(twice.pop(at + 1), [0] + [1] * (call[2] // 2))
                    self.assertEqual(twice, answered)
                    seen += 1
        self.assertGreater(seen, 100)

    def test_only_what_they_alone_changed_is_taken_of_just_the_text_that_was_sent(self):
        taken = 0
        for calls in self.LINES:
            for at, name, theirs, outcome in self.coming_back_one_by_one(calls):
                ours_before = self.ours(name, calls[:at])
                ours_behind = self.ours(name, calls[:at + 1])
                if outcome != 2:
                    self.assertEqual(ours_behind, ours_before)
                    continue
                taken += 1
                sent = self.sent(name, calls[at][1], calls[:at])
                self.assertEqual(ours_before, sent)
                self.assertEqual(ours_behind, (sent[0], theirs))
                self.assertNotEqual(theirs, sent[1])
        self.assertGreater(taken, 20)

    def test_nothing_that_comes_back_is_lost(self):
        seen = 0
        for calls in self.LINES:
            for at, name, theirs, outcome in self.coming_back_one_by_one(calls):
                there = [row[3] for row in open_behind(*calls[:at + 1]) if row[:2] == (name, calls[at][1])]
                self.assertEqual(self.sent(name, calls[at][1], calls[:at + 1])[1], theirs)
                if outcome in (3, 4, 5):
                    self.assertEqual(there, [theirs])
                    seen += 1
                elif outcome in (0, 2):
                    self.assertEqual(there, [])
                    self.assertEqual(self.ours(name, calls[:at + 1])[1], theirs)
        self.assertGreater(seen, 20)

    def coming_back_one_by_one(self, calls):
        """Of each back of one piece that is done: where it stands, the name, theirs, what it was."""
        for at, (call, answer) in enumerate(zip(calls, ask(*calls), strict=True)):
            if call[0] == 5 and call[2] == 2 and answer[0] >= 0:
                yield at, call[3], call[4], answer[1]

    def ours(self, name, calls):
        """The piece's text and translation, or None where it is gone."""
        return {row[0]: row[1:] for row in pieces_behind(*calls)}.get(name)

    def sent(self, name, number, calls):
        """The text that was sent and the base."""
        told = last(*calls, package(number))
        return {told[at]: (told[at + 1], told[at + 2]) for at in range(2, len(told), 3)}[name]

    def test_packages_of_other_pieces_in_whatever_order(self):
        start = (
            *[piece(name, 5) for name in range(6)], send(0, 1), send(2, 3), send(4, 5),
            put(1, 3), text(2, 6), gone(4),
        )
        coming = (
            (back(0, (0, 7), (1, 7)), [1, 2, 3]),
            (back(1, (2, 7), (3, 0)), [0, 4, 1]),
            (back(2, (5, 7), (4, 7)), [1, 2, 5]),
        )
        expected = all_seen(*start, *[call for call, answer in coming])
        for order in itertools.permutations(coming):
            calls = (*start, *[call for call, answer in order])
            self.assertEqual(ask(*calls)[-3:], [answer for call, answer in order])
            self.assertEqual(all_seen(*calls)[1:], expected[1:])
            self.assertEqual(
                sorted(open_behind(*calls)), [(1, 0, 5, 7, 3), (2, 1, 5, 7, 4), (4, 2, 5, 7, 5)],
            )


if __name__ == "__main__":
    unittest.main()
