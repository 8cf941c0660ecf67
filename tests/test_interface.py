"""The form of what is handed in and given back, and that nothing is changed or kept."""

import unittest

from comesback.office import answers
from lines import (
    LARGEST, back, choose_ours, choose_theirs, gone, line, off, opened, out, package, piece, pieces, put, send, text,
)


class Untouchable(list):
    """A list that can't be changed, not for a while either."""

    def refuse(self, *told, **named):
        raise AssertionError("what was handed in was changed")

    append = clear = extend = insert = pop = remove = reverse = sort = refuse
    __setitem__ = __delitem__ = __iadd__ = __imul__ = refuse


EACH_CALL = line(
    piece(1, 5), piece(2, 6), put(2, 3), send(2, 1), text(2, 7), back(0, (2, 9), (1, 8)), gone(1),
    piece(100, 5), send(), back(3, (1, 1)), put(5, 5), back(0, (LARGEST, 0)),
    opened(), pieces(), package(0), out(1), off(0), choose_theirs(2, 0), choose_ours(2, 0), package(0), out(1), opened(),
    off(0), package(1), back(0, (1, 1)),
)


class FormTest(unittest.TestCase):

    def test_one_call_alone(self):
        self.assertEqual(answers([0, 1, 5]), [3, 1, 0, 0])
        self.assertEqual(answers([1, 1, 5]), [1, -2])
        self.assertEqual(answers([2, 1]), [1, -2])
        self.assertEqual(answers([3, 1, 5]), [1, -2])
        self.assertEqual(answers([4, 0]), [1, -1])
        self.assertEqual(answers([5, 0, 0]), [1, -1])
        self.assertEqual(answers([6, 0]), [1, -2])
        self.assertEqual(answers([7, 0, 0, 0]), [1, -2])
        self.assertEqual(answers([7, 0, 0, 1]), [1, -2])
        self.assertEqual(answers([8]), [1, 0])
        self.assertEqual(answers([9]), [1, 0])
        self.assertEqual(answers([10, 0]), [1, -2])
        self.assertEqual(answers([11, 0]), [1, 0])

    def test_each_call_is_passed_over_whole(self):
        for call in ([6, LARGEST], [7, LARGEST, LARGEST, 1], [8], [9], [10, LARGEST], [11, LARGEST]):
            self.assertEqual(answers([*call, 0, 1, 5])[-4:], [3, 1, 0, 0])
            self.assertEqual(len(answers([*call, 0, 1, 5])), 6)

    def test_each_call_with_its_count(self):
        self.assertEqual(answers(EACH_CALL), [
            3, 1, 0, 0, 3, 2, 0, 0, 3, 2, 1, 0, 1, 0, 3, 2, 0, 0, 3, 1, 4, 2, 3, 1, 0, 1,
            1, -1, 1, -1, 1, -2, 1, -2, 1, -3,
            6, 1, 2, 0, 6, 9, 4, 4, 1, 2, 7, 0, 8, 0, 2, 2, 6, 9, 1, 5, 8, 2, 1, 0, 1, 0, 3, 1, 1, 0, 1, -2,
            8, 1, 2, 2, 6, 9, 1, 5, 8, 1, 0, 1, 0, 1, -6, 1, -2, 1, -6,
        ])

    def test_a_refused_row_is_passed_over_whole(self):
        self.assertEqual(answers(line(send(*range(40)), piece(1, 5))), [1, -1, 3, 1, 0, 0])
        long_row = [(number, 0) for number in range(20)]
        self.assertEqual(answers(line(back(0, *long_row), piece(1, 5))), [1, -1, 3, 1, 0, 0])

    def test_forty_calls(self):
        calls = line(piece(1, 5), *[put(1, number % 2) for number in range(39)])
        expected = [3, 1, 0, 0]
        for number in range(39):
            expected.extend([3, 1, number % 2, 0])
        self.assertEqual(answers(calls), expected)

    def test_forty_long_calls(self):
        calls = line(*[piece(name, 5) for name in range(8)], send(*range(8)),
                     *[back(0, *[(name, 1 + turn) for name in range(8)]) for turn in range(31)])
        self.assertEqual(answers(calls)[-10 * 31:], ([9, 8] + [2] * 8) * 31)

    def test_the_most_that_is_open(self):
        names = range(4)
        calls = line(*[piece(name, 5) for name in names], *[send(*names)] * 10, *[put(name, 8) for name in names],
                     *[back(number, *[(name, 7) for name in names]) for number in range(10)], opened(), pieces())
        expected = [201, 40]
        for number in range(10):
            for name in names:
                expected.extend([name, number, 5, 7, 3])
        self.assertEqual(answers(calls)[-len(expected) - 14:-14], expected)

    def test_a_list_of_whole_numbers(self):
        given = answers(EACH_CALL)
        self.assertIs(type(given), list)
        self.assertEqual({type(number) for number in given}, {int})


class NothingKeptTest(unittest.TestCase):

    def test_the_list_is_the_same_as_before(self):
        handed_in = list(EACH_CALL)
        answers(handed_in)
        self.assertEqual(handed_in, EACH_CALL)

    def test_the_list_is_not_changed_for_a_while_either(self):
        self.assertEqual(answers(Untouchable(EACH_CALL)), answers(EACH_CALL))

    def test_asking_again_gives_the_same(self):
        first = answers(EACH_CALL)
        answers(line(piece(9, 1), send(9), back(0, (9, 4))))
        self.assertEqual(answers(EACH_CALL), first)

    def test_what_was_given_back_may_be_changed(self):
        first = answers(EACH_CALL)
        kept = list(first)
        first.clear()
        self.assertEqual(answers(EACH_CALL), kept)


if __name__ == "__main__":
    unittest.main()
