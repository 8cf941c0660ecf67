"""off: what it answers and refuses, and what a package that is given up still is and no longer does."""

import unittest

from lines import (
    LARGEST, all_seen, ask, back, choose_ours, choose_theirs, gone, last, off, open_behind, opened, out, package,
    piece, pieces_behind, pieces_told, put, send,
)

THREE_SENT = (*pieces_told(3), send(0), send(1, 2), send(2))


class OffTest(unittest.TestCase):

    def test_how_many_are_not_given_up(self):
        self.assertEqual(ask(*THREE_SENT, off(1), off(0), off(2))[-3:], [[2], [1], [0]])

    def test_the_only_one(self):
        self.assertEqual(last(*pieces_told(1), send(0), off(0)), [0])

    def test_ten_one_behind_another(self):
        calls = (*pieces_told(1), *[send(0)] * 10, *[off(number) for number in range(9, -1, -1)])
        self.assertEqual(ask(*calls)[-10:], [[number] for number in range(9, -1, -1)])

    def test_one_sent_later_counts(self):
        self.assertEqual(ask(*THREE_SENT, off(1), send(0), off(0))[-3:], [[2], [3], [2]])

    def test_a_refused_one_counts_no_further(self):
        self.assertEqual(ask(*THREE_SENT, off(1), off(1), off(7), off(0))[-4:], [[2], [-6], [-2], [1]])

    def test_only_that_one_is_given_up(self):
        calls = (*THREE_SENT, off(1))
        self.assertEqual([last(*calls, package(number))[0] for number in range(3)], [0, 1, 0])

    def test_pieces_and_what_is_open_stay_as_they_are(self):
        calls = (*THREE_SENT, put(1, 8), put(2, 4), back(1, (1, 7)))
        self.assertEqual(pieces_behind(*calls, off(1)), pieces_behind(*calls))
        self.assertEqual(open_behind(*calls, off(1)), open_behind(*calls))

    def test_there_is_no_such_package(self):
        self.assertEqual(last(off(0)), [-2])
        self.assertEqual(last(off(LARGEST)), [-2])
        for number in (3, 4, 10, LARGEST):
            self.assertEqual(last(*THREE_SENT, off(number)), [-2])

    def test_the_last_one_there_is(self):
        self.assertEqual(last(*THREE_SENT, off(2)), [2])

    def test_it_is_given_up(self):
        for number in range(3):
            self.assertEqual(last(*THREE_SENT, off(number), off(number)), [-6])
        self.assertEqual(last(*THREE_SENT, off(0), off(2), off(0)), [-6])

    def test_behind_a_refusal_all_is_as_it_was(self):
        calls = (*THREE_SENT, put(1, 8), back(1, (1, 7)), off(0))
        for refused in (off(0), off(3), off(LARGEST)):
            self.assertLess(last(*calls, refused)[0], 0)
            self.assertEqual(all_seen(*calls, refused), all_seen(*calls))


class BackToItTest(unittest.TestCase):

    GIVEN_UP = (*pieces_told(3), send(0, 1), send(0, 1), off(0))

    def test_it_is_given_up(self):
        self.assertEqual(last(*self.GIVEN_UP, back(0, (0, 7))), [-6])
        self.assertEqual(last(*self.GIVEN_UP, back(0, (0, 7), (1, 7))), [-6])

    def test_it_is_given_up_and_theirs_is_the_base(self):
        self.assertEqual(last(*self.GIVEN_UP, back(0, (0, 0))), [-6])

    def test_the_other_one_still_comes_back(self):
        self.assertEqual(last(*self.GIVEN_UP, back(1, (0, 7), (1, 7))), [2, 2, 2])

    def test_ahead_of_a_piece_that_is_not_in_it(self):
        for name in (2, 50, 100, LARGEST):
            self.assertEqual(last(*self.GIVEN_UP, back(0, (name, 7))), [-6])
            self.assertEqual(last(*self.GIVEN_UP, back(0, (0, 7), (name, 7))), [-6])
            self.assertEqual(last(*self.GIVEN_UP, back(1, (0, 7), (name, 7))), [-3])

    def test_wrong_numbers_ahead_of_it(self):
        wrong = (
            back(0),
            back(0, *[(name, 1) for name in range(9)]),
            back(0, (1, 7), (1, 7)),
            back(0, (2, 7), (2, 7)),
            back(0, (1, 1000)),
            back(0, (1, 7), (2, LARGEST)),
        )
        for refused in wrong:
            self.assertEqual(last(*self.GIVEN_UP, refused), [-1])

    def test_there_is_no_such_package_where_another_is_given_up(self):
        self.assertEqual(last(*self.GIVEN_UP, back(2, (0, 7))), [-2])
        self.assertEqual(last(*self.GIVEN_UP, back(LARGEST, (2, 7))), [-2])

    def test_behind_a_refusal_all_is_as_it_was(self):
        calls = (*pieces_told(3), send(0, 1, 2), put(0, 8), back(0, (0, 7), (1, 7)), off(0))
        for refused in (back(0, (0, 8)), back(0, (0, 9), (1, 9), (2, 9)), back(0, (2, 9), (5, 9)), back(0)):
            self.assertLess(last(*calls, refused)[0], 0)
            self.assertEqual(all_seen(*calls, refused), all_seen(*calls))


class WhatStaysTest(unittest.TestCase):

    OPEN = (piece(1, 5), piece(2, 6), send(1, 2), put(1, 8), put(2, 8), back(0, (1, 7), (2, 9)), off(0))

    def test_what_is_open_by_it_stays_open(self):
        self.assertEqual(last(*self.OPEN, opened()), [2, 1, 0, 5, 7, 3, 2, 0, 6, 9, 3])
        self.assertEqual(last(*self.OPEN, put(1, 8)), [2, 2, 2])

    def test_theirs_can_be_chosen(self):
        calls = (*self.OPEN, choose_theirs(2, 0))
        self.assertEqual(last(*calls), [2, 2, 1])
        self.assertEqual(pieces_behind(*calls), [(1, 5, 8), (2, 6, 9)])
        self.assertEqual(open_behind(*calls), [(1, 0, 5, 7, 3)])

    def test_ours_can_be_chosen(self):
        calls = (*self.OPEN, choose_ours(1, 0))
        self.assertEqual(last(*calls), [2, 2, 1])
        self.assertEqual(pieces_behind(*calls), [(1, 5, 8), (2, 6, 8)])
        self.assertEqual(open_behind(*calls), [(2, 0, 6, 9, 3)])

    def test_choosing_does_not_undo_it(self):
        calls = (*self.OPEN, choose_theirs(2, 0), choose_ours(1, 0))
        self.assertEqual(last(*calls, back(0, (1, 3))), [-6])
        self.assertEqual(last(*calls, off(0)), [-6])
        self.assertEqual(last(*calls, package(0))[0], 1)

    def test_it_counts_among_the_ten_that_were_sent(self):
        calls = (*pieces_told(1), send(0), off(0), *[send(0)] * 10)
        self.assertEqual(ask(*calls)[3:], [[number] for number in range(1, 10)] + [[-5]])

    def test_ten_given_up_make_no_room(self):
        calls = (*pieces_told(1), *[send(0)] * 10, *[off(number) for number in range(10)], send(0))
        self.assertEqual(last(*calls), [-5])

    def test_its_number_is_not_given_again(self):
        for number in range(3):
            calls = (*THREE_SENT, off(number), send(0))
            self.assertEqual(last(*calls), [3])
            self.assertEqual(last(*calls, package(number))[0], 1)
            self.assertEqual(last(*calls, package(3)), [0, 1, 0, 500, 0])

    def test_its_pieces_can_be_sent_again(self):
        calls = (*THREE_SENT, off(1), send(2, 1))
        self.assertEqual(last(*calls), [3])
        self.assertEqual(last(*calls, back(3, (1, 7))), [1, 2])
        self.assertEqual(last(*calls, out(1)), [1, 3])

    def test_a_piece_of_it_that_is_gone_and_there_again_does_not_bring_it_back(self):
        calls = (*THREE_SENT, off(0), gone(0), piece(0, 500))
        self.assertEqual(last(*calls, back(0, (0, 7))), [-6])
        self.assertEqual(last(*calls, out(0)), [0])


if __name__ == "__main__":
    unittest.main()
