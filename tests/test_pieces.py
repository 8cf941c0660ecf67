"""piece, text, gone, put: what they answer, and the refusals of point 1."""

import unittest

from lines import LARGEST, ask, back, gone, last, piece, pieces_told, put, send, text


class PieceTest(unittest.TestCase):

    def test_each_is_one_more_without_a_translation(self):
        self.assertEqual(ask(piece(7, 3), piece(2, 3)), [[1, 0, 0], [2, 0, 0]])

    def test_a_piece_more_leaves_the_others_as_they_are(self):
        self.assertEqual(ask(piece(7, 3), put(7, 9), piece(2, 3))[-1], [2, 1, 0])

    def test_name_at_the_edge(self):
        self.assertEqual(last(piece(0, 1)), [1, 0, 0])
        self.assertEqual(last(piece(99, 1)), [1, 0, 0])
        self.assertEqual(last(piece(100, 1)), [-1])
        self.assertEqual(last(piece(LARGEST, 1)), [-1])

    def test_text_at_the_edge(self):
        self.assertEqual(last(piece(1, 0)), [1, 0, 0])
        self.assertEqual(last(piece(1, 999)), [1, 0, 0])
        self.assertEqual(last(piece(1, 1000)), [-1])
        self.assertEqual(last(piece(1, LARGEST)), [-1])

    def test_there_is_such_a_piece(self):
        self.assertEqual(last(piece(1, 5), piece(1, 5)), [-4])
        self.assertEqual(last(piece(1, 5), piece(1, 6)), [-4])

    def test_twelve_and_one_more(self):
        self.assertEqual(last(*pieces_told(12)), [12, 0, 0])
        self.assertEqual(last(*pieces_told(12), piece(50, 1)), [-5])

    def test_one_gone_of_twelve_makes_room(self):
        self.assertEqual(ask(*pieces_told(12), gone(4), piece(50, 1), piece(51, 1))[-2:], [[12, 0, 0], [-5]])

    def test_the_one_told_first(self):
        self.assertEqual(last(piece(1, 5), piece(1, 1000)), [-1])
        self.assertEqual(last(*pieces_told(12), piece(100, 1)), [-1])
        self.assertEqual(last(*pieces_told(12), piece(50, 1000)), [-1])
        self.assertEqual(last(*pieces_told(12), piece(3, 1)), [-4])

    def test_behind_a_refusal_all_is_as_it_was(self):
        for refused in (piece(1, 6), piece(100, 5), piece(2, 1000)):
            answered = ask(piece(1, 5), put(1, 9), refused, put(1, 9), text(1, 5))
            self.assertEqual(answered[-2:], [[1, 1, 0], [1, 1, 0]])

    def test_there_again_has_no_translation(self):
        self.assertEqual(last(piece(1, 5), put(1, 9), gone(1), piece(1, 5)), [1, 0, 0])


class TextTest(unittest.TestCase):

    def test_another_text_has_no_translation(self):
        self.assertEqual(last(piece(1, 5), put(1, 9), text(1, 6)), [1, 0, 0])

    def test_the_same_text_keeps_the_translation(self):
        self.assertEqual(last(piece(1, 5), put(1, 9), text(1, 5)), [1, 1, 0])

    def test_the_text_is_this_one_from_then_on(self):
        self.assertEqual(last(piece(1, 5), text(1, 6), put(1, 9), text(1, 6)), [1, 1, 0])
        self.assertEqual(last(piece(1, 5), text(1, 6), put(1, 9), text(1, 5)), [1, 0, 0])

    def test_only_that_piece_is_changed(self):
        self.assertEqual(last(piece(1, 5), piece(2, 5), put(1, 9), put(2, 9), text(1, 6)), [2, 1, 0])

    def test_text_at_the_edge(self):
        self.assertEqual(last(piece(1, 5), text(1, 0)), [1, 0, 0])
        self.assertEqual(last(piece(1, 5), text(1, 999)), [1, 0, 0])
        self.assertEqual(last(piece(1, 5), text(1, 1000)), [-1])
        self.assertEqual(last(piece(1, 5), text(1, LARGEST)), [-1])

    def test_there_is_no_such_piece(self):
        self.assertEqual(last(text(1, 5)), [-2])
        self.assertEqual(last(piece(1, 5), gone(1), text(1, 5)), [-2])
        for name in (99, 100, 1000, LARGEST):
            self.assertEqual(last(piece(1, 5), text(name, 5)), [-2])

    def test_the_one_told_first(self):
        self.assertEqual(last(text(1, 1000)), [-1])

    def test_behind_a_refusal_all_is_as_it_was(self):
        for refused in (text(1, 1000), text(2, 6)):
            answered = ask(piece(1, 5), put(1, 9), refused, text(1, 5))
            self.assertEqual(answered[-1], [1, 1, 0])


class GoneTest(unittest.TestCase):

    def test_it_is_gone(self):
        self.assertEqual(last(piece(1, 5), piece(2, 6), put(1, 9), gone(1)), [1, 0, 0])
        self.assertEqual(last(piece(1, 5), piece(2, 6), put(1, 9), gone(2)), [1, 1, 0])

    def test_what_is_open_of_it_stays_open(self):
        calls = (piece(1, 5), send(1), put(1, 8), back(0, (1, 9)), gone(1))
        self.assertEqual(last(*calls), [0, 0, 1])

    def test_there_is_no_such_piece(self):
        self.assertEqual(last(gone(1)), [-2])
        self.assertEqual(last(piece(1, 5), gone(1), gone(1)), [-2])
        for name in (99, 100, LARGEST):
            self.assertEqual(last(piece(1, 5), gone(name)), [-2])

    def test_behind_a_refusal_all_is_as_it_was(self):
        self.assertEqual(last(piece(1, 5), put(1, 9), gone(2), text(1, 5)), [1, 1, 0])


class PutTest(unittest.TestCase):

    def test_it_has_a_translation(self):
        self.assertEqual(ask(piece(1, 5), piece(2, 5), put(1, 9), put(2, 9))[2:], [[2, 1, 0], [2, 2, 0]])

    def test_nought_is_no_translation(self):
        self.assertEqual(last(piece(1, 5), put(1, 9), put(1, 0)), [1, 0, 0])

    def test_the_later_one_holds(self):
        calls = (piece(1, 5), put(1, 8), put(1, 9), send(1))
        self.assertEqual(last(*calls, back(0, (1, 9))), [0, 1])
        self.assertEqual(last(*calls, back(0, (1, 8))), [1, 2])

    def test_translation_at_the_edge(self):
        self.assertEqual(last(piece(1, 5), put(1, 999)), [1, 1, 0])
        self.assertEqual(last(piece(1, 5), put(1, 1000)), [-1])
        self.assertEqual(last(piece(1, 5), put(1, LARGEST)), [-1])

    def test_there_is_no_such_piece(self):
        self.assertEqual(last(put(1, 5)), [-2])
        self.assertEqual(last(piece(1, 5), gone(1), put(1, 5)), [-2])
        for name in (99, 100, 1000, LARGEST):
            self.assertEqual(last(piece(1, 5), put(name, 5)), [-2])

    def test_the_one_told_first(self):
        self.assertEqual(last(put(1, 1000)), [-1])

    def test_behind_a_refusal_all_is_as_it_was(self):
        for refused in (put(1, 1000), put(2, 8)):
            answered = ask(piece(1, 5), put(1, 9), refused, send(1), back(0, (1, 9)))
            self.assertEqual(answered[-1], [0, 1])
            self.assertEqual(ask(piece(1, 5), put(1, 9), refused, text(1, 5))[-1], [1, 1, 0])


if __name__ == "__main__":
    unittest.main()
