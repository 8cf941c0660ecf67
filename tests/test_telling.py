"""pieces, package and out: what they tell, and what package refuses."""

import unittest

from lines import (
    LARGEST, all_seen, ask, back, choose_theirs, gone, last, off, out, package, piece, pieces, pieces_behind,
    pieces_told, put, send, text,
)


class PiecesTest(unittest.TestCase):

    def test_none(self):
        self.assertEqual(last(pieces()), [0])
        self.assertEqual(last(piece(1, 5), gone(1), pieces()), [0])

    def test_each_with_its_text_and_translation(self):
        self.assertEqual(last(piece(7, 5), piece(3, 999), put(3, 9), pieces()), [2, 7, 5, 0, 3, 999, 9])

    def test_as_they_were_told(self):
        names = (99, 4, 50, 0, 7)
        calls = [piece(name, name + 1) for name in names]
        self.assertEqual([row[0] for row in pieces_behind(*calls)], list(names))

    def test_twelve(self):
        calls = [piece(name, 3) for name in range(99, 87, -1)]
        self.assertEqual(pieces_behind(*calls), [(name, 3, 0) for name in range(99, 87, -1)])

    def test_one_was_gone(self):
        calls = (*pieces_told(3), gone(1))
        self.assertEqual(pieces_behind(*calls), [(0, 500, 0), (2, 502, 0)])

    def test_one_was_gone_and_was_told_again(self):
        calls = (*pieces_told(3), put(0, 9), gone(0), piece(0, 7))
        self.assertEqual(pieces_behind(*calls), [(1, 501, 0), (2, 502, 0), (0, 7, 0)])
        same_text = (*pieces_told(3), gone(1), piece(1, 501))
        self.assertEqual(pieces_behind(*same_text), [(0, 500, 0), (2, 502, 0), (1, 501, 0)])

    def test_a_change_leaves_the_order(self):
        calls = (*pieces_told(3), text(0, 4), put(1, 8), send(1, 0), back(0, (0, 6), (1, 9)))
        self.assertEqual(pieces_behind(*calls), [(0, 4, 6), (1, 501, 9), (2, 502, 0)])

    def test_a_refused_piece_leaves_the_order(self):
        self.assertEqual(pieces_behind(*pieces_told(2), piece(0, 7)), [(0, 500, 0), (1, 501, 0)])

    def test_what_text_and_put_did(self):
        calls = (piece(1, 5), put(1, 9))
        self.assertEqual(pieces_behind(*calls), [(1, 5, 9)])
        self.assertEqual(pieces_behind(*calls, text(1, 5)), [(1, 5, 9)])
        self.assertEqual(pieces_behind(*calls, text(1, 6)), [(1, 6, 0)])
        self.assertEqual(pieces_behind(*calls, put(1, 0)), [(1, 5, 0)])

    def test_asking_changes_nothing(self):
        calls = (*pieces_told(3), put(1, 2))
        self.assertEqual(all_seen(*calls, pieces()), all_seen(*calls))


class PackageTest(unittest.TestCase):

    SENT = (piece(4, 5), piece(2, 6), piece(9, 7), put(2, 8), send(9, 2))

    def test_as_it_was_sent(self):
        self.assertEqual(last(*self.SENT, package(0)), [0, 2, 9, 7, 0, 2, 6, 8])

    def test_eight_pieces(self):
        calls = (*pieces_told(9), send(*range(8, 0, -1)), package(0))
        expected = [0, 8]
        for name in range(8, 0, -1):
            expected.extend([name, 500 + name, 0])
        self.assertEqual(last(*calls), expected)

    def test_each_package_its_own(self):
        calls = (*self.SENT, put(2, 3), text(9, 1), send(2, 9), send(4))
        self.assertEqual(last(*calls, package(0)), [0, 2, 9, 7, 0, 2, 6, 8])
        self.assertEqual(last(*calls, package(1)), [0, 2, 2, 6, 3, 9, 1, 0])
        self.assertEqual(last(*calls, package(2)), [0, 1, 4, 5, 0])

    def test_given_up(self):
        calls = (*self.SENT, send(4), off(0))
        self.assertEqual(last(*calls, package(0)), [1, 2, 9, 7, 0, 2, 6, 8])
        self.assertEqual(last(*calls, package(1)), [0, 1, 4, 5, 0])

    def test_the_base_behind_a_back_whatever_it_was(self):
        for meanwhile, outcome in (
            ([put(2, 3)], 0), ([], 2), ([put(2, 1)], 3), ([text(2, 4)], 4), ([gone(2)], 5),
        ):
            calls = (*self.SENT, *meanwhile, back(0, (2, 3)))
            self.assertEqual(last(*calls)[1], outcome)
            self.assertEqual(last(*calls, package(0)), [0, 2, 9, 7, 0, 2, 6, 3])

    def test_the_base_behind_a_back_of_the_base(self):
        self.assertEqual(last(*self.SENT, back(0, (2, 8)), package(0)), [0, 2, 9, 7, 0, 2, 6, 8])

    def test_the_base_behind_several(self):
        calls = (*self.SENT, back(0, (2, 3)), back(0, (9, 999), (2, 1)), back(0, (9, 0)))
        self.assertEqual(last(*calls, package(0)), [0, 2, 9, 7, 0, 2, 6, 1])

    def test_the_base_in_the_other_package_stays(self):
        calls = (*self.SENT, send(2), back(1, (2, 3)))
        self.assertEqual(last(*calls, package(0)), [0, 2, 9, 7, 0, 2, 6, 8])
        self.assertEqual(last(*calls, package(1)), [0, 1, 2, 6, 3])

    def test_the_text_that_was_sent_where_the_piece_has_another_one(self):
        calls = (*self.SENT, text(2, 1), put(2, 4), package(0))
        self.assertEqual(last(*calls), [0, 2, 9, 7, 0, 2, 6, 8])

    def test_the_text_that_was_sent_where_the_piece_is_gone(self):
        calls = (*self.SENT, gone(9), gone(2))
        self.assertEqual(last(*calls, package(0)), [0, 2, 9, 7, 0, 2, 6, 8])
        self.assertEqual(last(*calls, piece(2, 1), package(0)), [0, 2, 9, 7, 0, 2, 6, 8])

    def test_given_up_behind_a_back(self):
        calls = (*self.SENT, put(2, 1), back(0, (2, 3)), off(0), choose_theirs(2, 0), package(0))
        self.assertEqual(last(*calls), [1, 2, 9, 7, 0, 2, 6, 3])

    def test_there_is_no_such_package(self):
        self.assertEqual(last(package(0)), [-2])
        self.assertEqual(last(package(LARGEST)), [-2])
        for number in (1, 2, 10, LARGEST):
            self.assertEqual(last(*self.SENT, package(number)), [-2])

    def test_a_refused_send_makes_none(self):
        self.assertEqual(last(*self.SENT, send(50), package(1)), [-2])
        self.assertEqual(last(*pieces_told(1), *[send(0)] * 11, package(10)), [-2])
        self.assertEqual(last(*pieces_told(1), *[send(0)] * 11, package(9)), [0, 1, 0, 500, 0])

    def test_asking_changes_nothing(self):
        for asked in (package(0), package(1), package(LARGEST)):
            self.assertEqual(all_seen(*self.SENT, asked), all_seen(*self.SENT))


class OutTest(unittest.TestCase):

    SENT = (*pieces_told(4), send(0, 1), send(1, 2), send(2), send(1))

    def test_these(self):
        self.assertEqual(ask(*self.SENT, out(0), out(1), out(2))[-3:], [[1, 0], [3, 0, 1, 3], [2, 1, 2]])

    def test_in_none(self):
        self.assertEqual(last(*self.SENT, out(3)), [0])
        self.assertEqual(last(out(0)), [0])

    def test_in_all_ten(self):
        self.assertEqual(last(*pieces_told(1), *[send(0)] * 10, out(0)), [10, *range(10)])

    def test_packages_given_up_are_not_among_them(self):
        calls = (*self.SENT, off(1))
        self.assertEqual(ask(*calls, out(0), out(1), out(2))[-3:], [[1, 0], [2, 0, 3], [1, 2]])
        self.assertEqual(ask(*calls, off(2), off(0), out(0), out(1), out(2))[-3:], [[0], [1, 3], [0]])

    def test_a_piece_that_is_gone(self):
        self.assertEqual(last(*self.SENT, gone(1), out(1)), [3, 0, 1, 3])
        self.assertEqual(last(*self.SENT, gone(1), off(0), out(1)), [2, 1, 3])

    def test_a_piece_that_is_gone_and_there_again(self):
        calls = (*self.SENT, gone(1), piece(1, 7), send(1))
        self.assertEqual(last(*calls, out(1)), [4, 0, 1, 3, 4])

    def test_a_name_that_no_package_has(self):
        for name in (4, 50, 99):
            self.assertEqual(last(*self.SENT, out(name)), [0])

    def test_names_above_99(self):
        for name in (100, 1000, LARGEST):
            self.assertEqual(last(*self.SENT, out(name)), [0])
            self.assertEqual(last(out(name)), [0])

    def test_what_came_back_is_still_out(self):
        self.assertEqual(last(*self.SENT, back(0, (0, 7), (1, 7)), out(0)), [1, 0])

    def test_a_refused_send_is_not_among_them(self):
        self.assertEqual(last(*self.SENT, send(0, 9), send(0, 0), out(0)), [1, 0])

    def test_asking_changes_nothing(self):
        self.assertEqual(all_seen(*self.SENT, out(1), out(LARGEST)), all_seen(*self.SENT))


if __name__ == "__main__":
    unittest.main()
