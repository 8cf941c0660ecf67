"""send and back: what they answer, and their refusals of point 2."""

import unittest

from lines import LARGEST, ask, back, gone, last, piece, pieces_told, put, send, text


class SendTest(unittest.TestCase):

    def test_numbers_from_nought_on(self):
        answered = ask(piece(1, 5), piece(2, 6), send(1), send(2), send(2, 1), send(1))
        self.assertEqual(answered[2:], [[0], [1], [2], [3]])

    def test_a_refused_one_takes_no_number(self):
        self.assertEqual(ask(piece(1, 5), send(1), send(2), send(), send(1))[1:], [[0], [-2], [-1], [1]])

    def test_how_many_names(self):
        self.assertEqual(last(*pieces_told(9), send()), [-1])
        self.assertEqual(last(*pieces_told(9), send(*range(1))), [0])
        self.assertEqual(last(*pieces_told(9), send(*range(8))), [0])
        self.assertEqual(last(*pieces_told(9), send(*range(9))), [-1])
        self.assertEqual(last(*pieces_told(9), send(*range(40))), [-1])

    def test_one_twice(self):
        self.assertEqual(last(*pieces_told(3), send(1, 1)), [-1])
        self.assertEqual(last(*pieces_told(3), send(1, 0, 2, 1)), [-1])

    def test_there_is_no_such_piece(self):
        self.assertEqual(last(send(1)), [-2])
        self.assertEqual(last(*pieces_told(3), send(0, 1, 3)), [-2])
        self.assertEqual(last(*pieces_told(3), send(3, 0)), [-2])
        self.assertEqual(last(*pieces_told(3), gone(1), send(0, 1)), [-2])
        for name in (99, 100, LARGEST):
            self.assertEqual(last(*pieces_told(3), send(name)), [-2])

    def test_ten_packages_and_one_more(self):
        answered = ask(*pieces_told(2), *[send(0)] * 11)
        self.assertEqual(answered[2:], [[number] for number in range(10)] + [[-5]])

    def test_the_one_told_first(self):
        self.assertEqual(last(send(1, 1)), [-1])
        self.assertEqual(last(send(*range(9))), [-1])
        ten_sent = pieces_told(2) + [send(0)] * 10
        self.assertEqual(last(*ten_sent, send()), [-1])
        self.assertEqual(last(*ten_sent, send(0, 0)), [-1])
        self.assertEqual(last(*ten_sent, send(2)), [-2])

    def test_behind_a_refusal_all_is_as_it_was(self):
        for refused in (send(), send(0, 0), send(0, 5)):
            answered = ask(*pieces_told(2), put(0, 9), refused, put(0, 9), back(0, (0, 1)))
            self.assertEqual(answered[-2:], [[2, 1, 0], [-2]])

    def test_sending_changes_no_piece(self):
        self.assertEqual(last(piece(1, 5), put(1, 9), send(1), text(1, 5)), [1, 1, 0])

    def test_it_has_the_translation_as_it_was_then(self):
        calls = (piece(1, 5), put(1, 7), send(1), put(1, 8))
        self.assertEqual(last(*calls, back(0, (1, 7))), [0, 1])
        self.assertEqual(last(*calls, back(0, (1, 8))), [0, 0])

    def test_it_has_the_text_as_it_was_then(self):
        calls = (piece(1, 5), text(1, 6), send(1))
        self.assertEqual(last(*calls, back(0, (1, 7))), [1, 2])
        self.assertEqual(last(*calls, text(1, 5), back(0, (1, 7))), [0, 4])


class BackRefusedTest(unittest.TestCase):

    def test_how_many_pieces(self):
        calls = pieces_told(9) + [send(*range(8))]
        self.assertEqual(last(*calls, back(0)), [-1])
        self.assertEqual(last(*calls, back(0, (7, 3))), [1, 2])
        self.assertEqual(last(*calls, back(0, *[(name, 3) for name in range(8)])), [8] + [2] * 8)
        self.assertEqual(last(*calls, back(0, *[(name, 3) for name in range(9)])), [-1])
        self.assertEqual(last(*calls, back(0, *[(name, 3) for name in range(20)])), [-1])

    def test_one_twice(self):
        calls = pieces_told(3) + [send(0, 1, 2)]
        self.assertEqual(last(*calls, back(0, (1, 3), (1, 3))), [-1])
        self.assertEqual(last(*calls, back(0, (1, 3), (0, 3), (1, 4))), [-1])

    def test_two_with_the_same_translation_are_not_one_twice(self):
        self.assertEqual(last(*pieces_told(2), send(0, 1), back(0, (0, 1), (1, 1))), [2, 2, 2])

    def test_translation_at_the_edge(self):
        calls = pieces_told(2) + [send(0, 1)]
        self.assertEqual(last(*calls, back(0, (0, 999))), [1, 2])
        self.assertEqual(last(*calls, back(0, (0, 1000))), [-1])
        self.assertEqual(last(*calls, back(0, (0, LARGEST))), [-1])
        self.assertEqual(last(*calls, back(0, (0, 3), (1, 1000))), [-1])
        self.assertEqual(last(*calls, back(0, (0, 1000), (1, 3))), [-1])

    def test_there_is_no_such_package(self):
        self.assertEqual(last(back(0, (1, 3))), [-2])
        calls = pieces_told(1) + [send(0), send(0)]
        self.assertEqual(last(*calls, back(1, (0, 3))), [1, 2])
        self.assertEqual(last(*calls, back(2, (0, 3))), [-2])
        self.assertEqual(last(*calls, back(LARGEST, (0, 3))), [-2])

    def test_a_piece_is_not_in_it(self):
        calls = pieces_told(3) + [send(0, 1), send(2)]
        self.assertEqual(last(*calls, back(0, (2, 3))), [-3])
        self.assertEqual(last(*calls, back(0, (0, 3), (2, 3))), [-3])
        self.assertEqual(last(*calls, back(1, (0, 3))), [-3])
        for name in (50, 99, 100, LARGEST):
            self.assertEqual(last(*calls, back(0, (name, 3), (1, 3))), [-3])

    def test_the_one_told_first(self):
        calls = pieces_told(3) + [send(0, 1)]
        self.assertEqual(last(*calls, back(1)), [-1])
        self.assertEqual(last(*calls, back(1, (0, 3), (0, 3))), [-1])
        self.assertEqual(last(*calls, back(1, (0, 1000))), [-1])
        self.assertEqual(last(*calls, back(1, (2, 3))), [-2])
        self.assertEqual(last(*calls, back(0, (2, 3), (2, 3))), [-1])
        self.assertEqual(last(*calls, back(0, (2, 1000))), [-1])
        self.assertEqual(last(*calls, back(0, (2, 3), (1, 1000))), [-1])

    def test_behind_a_refusal_all_is_as_it_was(self):
        start = pieces_told(3) + [send(0, 1), put(1, 8)]
        refusals = (
            back(0),
            back(0, (0, 3), (1, 3), (0, 3)),
            back(0, (0, 3), (1, 1000)),
            back(1, (0, 3)),
            back(0, (0, 3), (1, 3), (2, 3)),
        )
        for refused in refusals:
            answered = ask(*start, refused, text(2, 502), back(0, (0, 3), (1, 3)))
            self.assertLess(answered[-3][0], 0)
            self.assertEqual(answered[-2:], [[3, 1, 0], [1, 2, 3]])


if __name__ == "__main__":
    unittest.main()
