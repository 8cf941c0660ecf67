"""open and choose: what is open, in which order, how each is now, and the refusals of point 3."""

import unittest

from lines import (
    LARGEST, all_seen, ask, back, choose_ours, choose_theirs, gone, last, off, open_behind, opened, package, piece,
    pieces, pieces_behind, put, send, text,
)

# Pieces 1, 2 and 3, all changed at both ends, open in the order 2, 1, 3.
THREE_OPEN = (
    piece(1, 5), piece(2, 6), piece(3, 6), send(1, 2, 3), put(1, 8), put(2, 8), put(3, 8),
    back(0, (2, 7), (1, 9), (3, 7)),
)
ONE_OPEN = (piece(1, 5), put(1, 6), send(1), put(1, 8), back(0, (1, 7)))


class OpenTest(unittest.TestCase):

    def test_nothing_is_open(self):
        self.assertEqual(last(opened()), [0])
        self.assertEqual(last(piece(1, 5), send(1), back(0, (1, 7)), opened()), [0])

    def test_one_is_open(self):
        self.assertEqual(last(*ONE_OPEN, opened()), [1, 1, 0, 5, 7, 3])

    def test_several_in_the_order_in_which_they_came_to_be_open(self):
        self.assertEqual(last(*THREE_OPEN, opened()), [3, 2, 0, 6, 7, 3, 1, 0, 5, 9, 3, 3, 0, 6, 7, 3])

    def test_several_packages_of_one_piece(self):
        calls = (piece(1, 5), send(1), send(1), send(1), put(1, 8), back(2, (1, 3)), back(0, (1, 4)), back(1, (1, 3)))
        self.assertEqual(last(*calls, opened()), [3, 1, 2, 5, 3, 3, 1, 0, 5, 4, 3, 1, 1, 5, 3, 3])

    def test_behind_a_choose(self):
        for choose in (choose_theirs, choose_ours):
            self.assertEqual(open_behind(*THREE_OPEN, choose(1, 0)), [(2, 0, 6, 7, 3), (3, 0, 6, 7, 3)])
            self.assertEqual(open_behind(*THREE_OPEN, choose(2, 0)), [(1, 0, 5, 9, 3), (3, 0, 6, 7, 3)])
            self.assertEqual(open_behind(*THREE_OPEN, choose(3, 0)), [(2, 0, 6, 7, 3), (1, 0, 5, 9, 3)])

    def test_behind_a_back_that_closes_one(self):
        as_ours = (*THREE_OPEN, back(0, (1, 8)))
        self.assertEqual(last(*as_ours), [0, 0])
        self.assertEqual(open_behind(*as_ours), [(2, 0, 6, 7, 3), (3, 0, 6, 7, 3)])
        taken = (*THREE_OPEN, put(2, 7), back(0, (2, 4)))
        self.assertEqual(last(*taken), [1, 2])
        self.assertEqual(open_behind(*taken), [(1, 0, 5, 9, 3), (3, 0, 6, 7, 3)])

    def test_behind_a_back_that_puts_one_instead_of_another(self):
        calls = (*THREE_OPEN, back(0, (2, 4)))
        self.assertEqual(last(*calls), [0, 3])
        self.assertEqual(open_behind(*calls), [(1, 0, 5, 9, 3), (3, 0, 6, 7, 3), (2, 0, 6, 4, 3)])
        again = (*calls, back(0, (3, 4), (1, 4)))
        self.assertEqual(open_behind(*again), [(2, 0, 6, 4, 3), (3, 0, 6, 4, 3), (1, 0, 5, 4, 3)])

    def test_instead_of_the_only_one_and_of_the_last_one(self):
        self.assertEqual(open_behind(*ONE_OPEN, back(0, (1, 9))), [(1, 0, 5, 9, 3)])
        calls = (*THREE_OPEN, back(0, (3, 4)))
        self.assertEqual(open_behind(*calls), [(2, 0, 6, 7, 3), (1, 0, 5, 9, 3), (3, 0, 6, 4, 3)])

    def test_a_back_of_the_base_leaves_the_order(self):
        calls = (*THREE_OPEN, back(0, (2, 7)))
        self.assertEqual(last(*calls), [0, 1])
        self.assertEqual(open_behind(*calls), open_behind(*THREE_OPEN))

    def test_chosen_and_open_again_stands_last(self):
        calls = (*THREE_OPEN, choose_ours(2, 0), back(0, (2, 4)))
        self.assertEqual(open_behind(*calls), [(1, 0, 5, 9, 3), (3, 0, 6, 7, 3), (2, 0, 6, 4, 3)])

    def test_only_that_package_s_is_put_instead(self):
        calls = (piece(1, 5), send(1), send(1), put(1, 8), back(0, (1, 3)), back(1, (1, 3)), back(0, (1, 4)))
        self.assertEqual(open_behind(*calls), [(1, 1, 5, 3, 3), (1, 0, 5, 4, 3)])

    def test_asking_changes_nothing(self):
        self.assertEqual(last(*THREE_OPEN, opened(), opened()), last(*THREE_OPEN, opened()))
        self.assertEqual(all_seen(*THREE_OPEN, opened()), all_seen(*THREE_OPEN))


class HowItIsNowTest(unittest.TestCase):

    CAME_BACK_GONE = (piece(1, 5), put(1, 6), send(1), gone(1), back(0, (1, 7)))
    CAME_BACK_OTHER = (piece(1, 5), put(1, 6), send(1), text(1, 4), back(0, (1, 7)))

    def now(self, *calls):
        (row,) = open_behind(*calls)
        self.assertEqual(row[:4], (1, 0, 5, 7))
        return row[4]

    def test_as_it_came_back(self):
        self.assertEqual(self.now(*self.CAME_BACK_GONE), 5)
        self.assertEqual(self.now(*self.CAME_BACK_OTHER), 4)
        self.assertEqual(self.now(*ONE_OPEN), 3)

    def test_came_back_where_it_was_gone_and_it_is_there_again(self):
        self.assertEqual(self.now(*self.CAME_BACK_GONE, piece(1, 5)), 3)
        self.assertEqual(self.now(*self.CAME_BACK_GONE, piece(1, 5), put(1, 7)), 0)
        self.assertEqual(self.now(*self.CAME_BACK_GONE, piece(1, 4)), 4)
        self.assertEqual(self.now(*self.CAME_BACK_GONE, piece(1, 5), gone(1)), 5)

    def test_came_back_of_another_text_and_it_has_the_sent_one_again(self):
        self.assertEqual(self.now(*self.CAME_BACK_OTHER, text(1, 5)), 3)
        self.assertEqual(self.now(*self.CAME_BACK_OTHER, text(1, 5), put(1, 7)), 0)
        self.assertEqual(self.now(*self.CAME_BACK_OTHER, gone(1)), 5)

    def test_came_back_changed_at_both_ends(self):
        self.assertEqual(self.now(*ONE_OPEN, put(1, 7)), 0)
        self.assertEqual(self.now(*ONE_OPEN, put(1, 7), put(1, 8)), 3)
        self.assertEqual(self.now(*ONE_OPEN, text(1, 4)), 4)
        self.assertEqual(self.now(*ONE_OPEN, text(1, 4), text(1, 5)), 3)
        self.assertEqual(self.now(*ONE_OPEN, gone(1)), 5)
        self.assertEqual(self.now(*ONE_OPEN, gone(1), piece(1, 5)), 3)

    def test_another_text_ahead_of_theirs_being_ours(self):
        self.assertEqual(self.now(*ONE_OPEN, text(1, 4), put(1, 7)), 4)

    def test_ours_is_what_was_the_base(self):
        self.assertEqual(self.now(*ONE_OPEN, put(1, 6)), 3)

    def test_ours_is_theirs_and_it_is_still_open(self):
        calls = (*ONE_OPEN, put(1, 7))
        self.assertEqual(last(*calls), [1, 1, 1])
        self.assertEqual(last(*calls, choose_ours(1, 0)), [1, 1, 0])

    def test_theirs_is_none_and_so_is_ours(self):
        calls = (piece(1, 5), put(1, 6), send(1), put(1, 8), back(0, (1, 0)))
        self.assertEqual(open_behind(*calls), [(1, 0, 5, 0, 3)])
        self.assertEqual(open_behind(*calls, put(1, 0)), [(1, 0, 5, 0, 0)])

    def test_each_kind_at_once(self):
        calls = (
            *[piece(name, 5) for name in range(4)], send(0, 1, 2, 3), *[put(name, 8) for name in range(4)],
            back(0, (3, 7), (2, 7), (1, 7), (0, 7)), gone(0), text(1, 6), put(2, 7),
        )
        self.assertEqual(
            last(*calls, opened()), [4, 3, 0, 5, 7, 3, 2, 0, 5, 7, 0, 1, 0, 5, 7, 4, 0, 0, 5, 7, 5],
        )

    def test_another_one_of_the_same_piece_was_chosen(self):
        calls = (piece(1, 5), send(1), send(1), put(1, 8), back(0, (1, 7)), back(1, (1, 7)), choose_theirs(1, 1))
        self.assertEqual(open_behind(*calls), [(1, 0, 5, 7, 0)])


class ChooseTest(unittest.TestCase):

    def test_theirs(self):
        calls = (*THREE_OPEN, choose_theirs(1, 0))
        self.assertEqual(last(*calls), [3, 3, 2])
        self.assertEqual(pieces_behind(*calls), [(1, 5, 9), (2, 6, 8), (3, 6, 8)])

    def test_ours(self):
        calls = (*THREE_OPEN, choose_ours(1, 0))
        self.assertEqual(last(*calls), [3, 3, 2])
        self.assertEqual(pieces_behind(*calls), [(1, 5, 8), (2, 6, 8), (3, 6, 8)])

    def test_theirs_is_the_first_translation(self):
        calls = (piece(1, 5), put(1, 6), send(1), put(1, 0), back(0, (1, 7)))
        self.assertEqual(ask(*calls, choose_theirs(1, 0))[-2:], [[0, 3], [1, 1, 0]])
        self.assertEqual(ask(*calls, choose_ours(1, 0))[-2:], [[0, 3], [1, 0, 0]])

    def test_theirs_is_none(self):
        calls = (piece(1, 5), put(1, 6), send(1), put(1, 8), back(0, (1, 0)), choose_theirs(1, 0))
        self.assertEqual(last(*calls), [1, 0, 0])
        self.assertEqual(last(*calls, pieces()), [1, 1, 5, 0])

    def test_theirs_where_the_text_is_another_one_by_now(self):
        calls = (*ONE_OPEN, text(1, 4), choose_theirs(1, 0))
        self.assertEqual(last(*calls), [1, 1, 0])
        self.assertEqual(pieces_behind(*calls), [(1, 4, 7)])

    def test_ours_where_the_text_is_another_one_by_now(self):
        calls = (*ONE_OPEN, text(1, 4), choose_ours(1, 0))
        self.assertEqual(last(*calls), [1, 0, 0])
        self.assertEqual(pieces_behind(*calls), [(1, 4, 0)])

    def test_ours_of_a_piece_that_is_gone_is_done(self):
        calls = (*ONE_OPEN, gone(1), choose_ours(1, 0))
        self.assertEqual(last(*calls), [0, 0, 0])
        self.assertEqual(last(*calls, opened()), [0])
        self.assertEqual(last(*calls, pieces()), [0])

    def test_theirs_of_a_piece_that_is_there_again(self):
        calls = (*ONE_OPEN, gone(1), piece(1, 4), choose_theirs(1, 0))
        self.assertEqual(last(*calls), [1, 1, 0])
        self.assertEqual(pieces_behind(*calls), [(1, 4, 7)])

    def test_of_that_package_alone(self):
        both = (piece(1, 5), send(1), send(1), put(1, 8), back(0, (1, 3)), back(1, (1, 4)))
        self.assertEqual(open_behind(*both, choose_theirs(1, 1)), [(1, 0, 5, 3, 3)])
        self.assertEqual(pieces_behind(*both, choose_theirs(1, 1)), [(1, 5, 4)])
        self.assertEqual(open_behind(*both, choose_theirs(1, 0)), [(1, 1, 5, 4, 3)])
        self.assertEqual(pieces_behind(*both, choose_theirs(1, 0)), [(1, 5, 3)])

    def test_the_one_that_is_there_instead(self):
        calls = (*ONE_OPEN, back(0, (1, 9)), choose_theirs(1, 0))
        self.assertEqual(last(*calls), [1, 1, 0])
        self.assertEqual(pieces_behind(*calls), [(1, 5, 9)])

    def test_the_packages_stay_as_they_are(self):
        for chosen in (choose_theirs(1, 0), choose_ours(1, 0)):
            self.assertEqual(last(*ONE_OPEN, chosen, package(0)), [0, 1, 1, 5, 7])

    def test_what_comes_back_behind_it(self):
        theirs = (*ONE_OPEN, choose_theirs(1, 0))
        self.assertEqual(last(*theirs, back(0, (1, 7))), [0, 1])
        self.assertEqual(last(*theirs, back(0, (1, 9))), [1, 2])
        ours = (*ONE_OPEN, choose_ours(1, 0))
        self.assertEqual(last(*ours, back(0, (1, 7))), [0, 1])
        self.assertEqual(last(*ours, back(0, (1, 8))), [0, 0])
        self.assertEqual(last(*ours, back(0, (1, 9))), [0, 3])


class ChooseRefusedTest(unittest.TestCase):

    def both(self, calls, name, number, expected):
        for choose in (choose_theirs, choose_ours):
            self.assertEqual(last(*calls, choose(name, number)), expected)

    def test_nothing_is_open(self):
        self.both((), 0, 0, [-2])
        self.both((piece(1, 5), send(1)), 1, 0, [-2])
        self.both((piece(1, 5), send(1), back(0, (1, 7))), 1, 0, [-2])

    def test_nothing_is_open_of_that_piece(self):
        calls = (piece(1, 5), piece(2, 5), send(1, 2), put(1, 8), back(0, (1, 7), (2, 7)))
        for name in (0, 2, 99, 100, LARGEST):
            self.both(calls, name, 0, [-2])

    def test_nothing_is_open_by_that_package(self):
        calls = (*ONE_OPEN, send(1))
        for number in (1, 2, 9, 10, LARGEST):
            self.both(calls, 1, number, [-2])

    def test_of_another_piece_and_by_another_package(self):
        calls = (
            piece(1, 5), piece(2, 5), send(1, 2), send(1, 2), put(1, 8), put(2, 8), back(0, (1, 7)), back(1, (2, 7)),
        )
        self.both(calls, 1, 1, [-2])
        self.both(calls, 2, 0, [-2])
        self.both(calls, 0, 1, [-2])

    def test_closed_already(self):
        self.both((*ONE_OPEN, choose_ours(1, 0)), 1, 0, [-2])
        self.both((*ONE_OPEN, choose_theirs(1, 0)), 1, 0, [-2])
        self.both((*ONE_OPEN, back(0, (1, 8))), 1, 0, [-2])

    def test_nothing_is_open_and_the_piece_is_gone(self):
        self.both((piece(1, 5), send(1), gone(1)), 1, 0, [-2])
        self.both((*ONE_OPEN, gone(1), choose_ours(1, 0)), 1, 0, [-2])

    def test_theirs_and_the_piece_is_gone(self):
        self.assertEqual(last(*ONE_OPEN, gone(1), choose_theirs(1, 0)), [-6])
        came_back_gone = (piece(1, 5), send(1), gone(1), back(0, (1, 7)))
        self.assertEqual(last(*came_back_gone, choose_theirs(1, 0)), [-6])
        self.assertEqual(last(*came_back_gone, off(0), choose_theirs(1, 0)), [-6])

    def test_refused_and_then_done(self):
        calls = (*ONE_OPEN, gone(1), choose_theirs(1, 0), piece(1, 5), choose_theirs(1, 0), pieces())
        self.assertEqual(ask(*calls)[-4:], [[-6], [1, 0, 1], [1, 1, 0], [1, 1, 5, 7]])

    def test_behind_a_refusal_all_is_as_it_was(self):
        for start, refused in (
            ((*THREE_OPEN, gone(1)), choose_theirs(1, 0)),
            (THREE_OPEN, choose_theirs(1, 1)),
            (THREE_OPEN, choose_ours(4, 0)),
            (THREE_OPEN, choose_ours(LARGEST, LARGEST)),
        ):
            self.assertLess(last(*start, refused)[0], 0)
            self.assertEqual(all_seen(*start, refused), all_seen(*start))


if __name__ == "__main__":
    unittest.main()
