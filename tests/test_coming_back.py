"""What a piece of a package is when it comes back, what is taken, what is then the base and what is open."""

import itertools
import unittest

from lines import (
    all_seen, ask, back, gone, last, open_behind, package, piece, pieces_behind, put, rows_of, send, text,
)

# Changes nothing: to see behind a call that doesn't tell how it stands.
STANDS = text(90, 1)
WATCHED = piece(90, 1)


def stands(*calls):
    """How it stands behind the calls, without the piece that is only there to ask."""
    answered = last(WATCHED, *calls, STANDS)
    return [answered[0] - 1] + answered[1:]


def what_is_open(*calls):
    """Name, package, the text that was sent and theirs of all that is open, in its order."""
    return [row[:4] for row in open_behind(*calls)]


def translation_of(name, *calls):
    """The piece's translation behind the calls."""
    return {row[0]: row[2] for row in pieces_behind(*calls)}[name]


def base_of(name, number, *calls):
    """The piece's base in the package behind the calls."""
    told = last(*calls, package(number))[1:]
    return {row[0]: row[2] for row in rows_of(told, 3)}[name]


class OutcomeTest(unittest.TestCase):

    SENT = (piece(1, 5), put(1, 6), send(1))

    def test_theirs_is_the_base(self):
        for meanwhile in ([], [put(1, 7)], [text(1, 4)], [gone(1)]):
            calls = (*self.SENT, *meanwhile, back(0, (1, 6)))
            self.assertEqual(last(*calls), [0, 1])
            self.assertEqual(stands(*calls)[2], 0)

    def test_theirs_is_the_base_and_ours_too(self):
        self.assertEqual(stands(*self.SENT, back(0, (1, 6))), [1, 1, 0])

    def test_gone(self):
        calls = (*self.SENT, gone(1), back(0, (1, 7)))
        self.assertEqual(last(*calls), [0, 5])
        self.assertEqual(stands(*calls), [0, 0, 1])
        self.assertEqual(what_is_open(*calls), [(1, 0, 5, 7)])

    def test_its_text_is_another_one(self):
        calls = (*self.SENT, text(1, 4), back(0, (1, 7)))
        self.assertEqual(last(*calls), [0, 4])
        self.assertEqual(stands(*calls), [1, 0, 1])
        self.assertEqual(what_is_open(*calls), [(1, 0, 5, 7)])

    def test_its_text_is_another_one_and_ours_is_theirs(self):
        calls = (*self.SENT, text(1, 4), put(1, 7), back(0, (1, 7)))
        self.assertEqual(last(*calls), [0, 4])
        self.assertEqual(stands(*calls), [1, 1, 1])

    def test_its_text_is_another_one_and_ours_is_the_base(self):
        calls = (*self.SENT, text(1, 4), put(1, 6), back(0, (1, 7)))
        self.assertEqual(last(*calls), [0, 4])
        self.assertEqual(translation_of(1, *calls), 6)

    def test_ours_is_theirs(self):
        calls = (*self.SENT, put(1, 7), back(0, (1, 7)))
        self.assertEqual(last(*calls), [0, 0])
        self.assertEqual(stands(*calls), [1, 1, 0])
        self.assertEqual(translation_of(1, *calls), 7)

    def test_taken(self):
        calls = (*self.SENT, back(0, (1, 7)))
        self.assertEqual(last(*calls), [1, 2])
        self.assertEqual(stands(*calls), [1, 1, 0])
        self.assertEqual(translation_of(1, *calls), 7)

    def test_taken_as_the_first_translation(self):
        calls = (piece(1, 5), send(1), back(0, (1, 7)))
        self.assertEqual(last(*calls), [1, 2])
        self.assertEqual(stands(*calls), [1, 1, 0])

    def test_none_is_taken_too(self):
        calls = (*self.SENT, back(0, (1, 0)))
        self.assertEqual(last(*calls), [1, 2])
        self.assertEqual(stands(*calls), [1, 0, 0])

    def test_changed_at_both_ends(self):
        calls = (*self.SENT, put(1, 8), back(0, (1, 7)))
        self.assertEqual(last(*calls), [0, 3])
        self.assertEqual(stands(*calls), [1, 1, 1])
        self.assertEqual(what_is_open(*calls), [(1, 0, 5, 7)])
        self.assertEqual(translation_of(1, *calls), 8)

    def test_all_small_cases(self):
        homes = ("there", "other text", "gone")
        for base, ours, theirs, home in itertools.product(range(3), range(3), range(3), homes):
            meanwhile = {"there": [], "other text": [text(1, 4)], "gone": [gone(1)]}[home]
            if home != "gone":
                meanwhile = meanwhile + [put(1, ours)]
            answered = last(piece(1, 5), put(1, base), send(1), *meanwhile, back(0, (1, theirs)))
            with self.subTest(base=base, ours=ours, theirs=theirs, home=home):
                self.assertEqual(answered, self.expected(base, ours, theirs, home))

    def expected(self, base, ours, theirs, home):
        if base == theirs:
            return [0, 1]
        if home != "there":
            return [0, 5] if home == "gone" else [0, 4]
        if ours == theirs:
            return [0, 0]
        return [1, 2] if ours == base else [0, 3]


class MeanwhileTest(unittest.TestCase):

    def test_gone_and_there_again_with_the_text_that_was_sent(self):
        calls = (piece(1, 5), send(1), gone(1), piece(1, 5), back(0, (1, 7)))
        self.assertEqual(last(*calls), [1, 2])
        self.assertEqual(stands(*calls), [1, 1, 0])

    def test_gone_and_there_again_without_the_base(self):
        calls = (piece(1, 5), put(1, 6), send(1), gone(1), piece(1, 5), back(0, (1, 7)))
        self.assertEqual(last(*calls), [0, 3])

    def test_gone_and_there_again_with_another_text(self):
        calls = (piece(1, 5), send(1), gone(1), piece(1, 4), back(0, (1, 7)))
        self.assertEqual(last(*calls), [0, 4])

    def test_the_text_is_the_sent_one_again(self):
        calls = (piece(1, 5), send(1), text(1, 4), text(1, 5), back(0, (1, 7)))
        self.assertEqual(last(*calls), [1, 2])

    def test_the_text_is_the_sent_one_again_without_the_base(self):
        calls = (piece(1, 5), put(1, 6), send(1), text(1, 4), text(1, 5), back(0, (1, 7)))
        self.assertEqual(last(*calls), [0, 3])

    def test_the_translation_is_the_base_again(self):
        calls = (piece(1, 5), put(1, 6), send(1), put(1, 8), put(1, 6), back(0, (1, 7)))
        self.assertEqual(last(*calls), [1, 2])


class BaseTest(unittest.TestCase):

    def test_the_same_thing_twice_is_as_if_it_came_once(self):
        for meanwhile in ([], [put(1, 7)], [put(1, 8)], [text(1, 4)], [gone(1)]):
            once = (piece(1, 5), put(1, 6), send(1), *meanwhile, back(0, (1, 7)))
            twice = (*once, back(0, (1, 7)))
            self.assertEqual(last(*twice), [0, 1])
            self.assertEqual(stands(*twice), stands(*once))
            self.assertEqual(all_seen(*twice), all_seen(*once))

    def test_twice_with_something_put_between(self):
        calls = (piece(1, 5), send(1), back(0, (1, 7)), put(1, 8), back(0, (1, 7)))
        self.assertEqual(last(*calls), [0, 1])
        self.assertEqual(translation_of(1, *calls), 8)

    def test_theirs_is_the_base_whatever_it_was(self):
        for meanwhile in ([put(1, 7)], [], [put(1, 8)], [text(1, 4)], [gone(1)]):
            calls = [piece(1, 5), put(1, 6), send(1), *meanwhile, back(0, (1, 7))]
            self.assertEqual(base_of(1, 0, *calls), 7)
            self.assertEqual(last(*calls, back(0, (1, 7))), [0, 1])
            self.assertNotEqual(last(*calls, back(0, (1, 6))), [0, 1])

    def test_later_ones_build_upon_what_was_taken(self):
        calls = (piece(1, 5), send(1), back(0, (1, 7)), back(0, (1, 8)), back(0, (1, 7)))
        self.assertEqual(ask(*calls)[2:], [[1, 2], [1, 2], [1, 2]])

    def test_the_base_is_each_package_s_own(self):
        calls = (piece(1, 5), send(1), send(1), back(0, (1, 7)))
        self.assertEqual(last(*calls, back(1, (1, 7))), [0, 0])
        self.assertEqual(last(*calls, back(1, (1, 8))), [0, 3])
        self.assertEqual(last(*calls, back(1, (1, 0))), [0, 1])

    def test_the_base_is_each_piece_s_own(self):
        calls = (piece(1, 5), piece(2, 5), send(1, 2), back(0, (1, 7)), back(0, (2, 7)))
        self.assertEqual(last(*calls), [1, 2])

    def test_the_text_that_was_sent_stays(self):
        calls = (piece(1, 5), send(1), text(1, 4), back(0, (1, 7)))
        self.assertEqual(last(*calls, back(0, (1, 8))), [0, 4])
        self.assertEqual(last(*calls, text(1, 5), back(0, (1, 8))), [0, 3])


class SeveralTest(unittest.TestCase):

    def test_each_outcome_at_once(self):
        calls = (
            *[piece(name, 5) for name in range(6)],
            send(0, 1, 2, 3, 4, 5),
            put(0, 7), put(3, 8), text(4, 6), gone(5),
            back(0, (5, 7), (3, 7), (1, 0), (4, 7), (0, 7), (2, 7)),
        )
        self.assertEqual(last(*calls), [1, 5, 3, 1, 4, 0, 2])
        self.assertEqual(stands(*calls), [5, 3, 3])
        self.assertEqual(what_is_open(*calls), [(5, 0, 5, 7), (3, 0, 5, 7), (4, 0, 5, 7)])

    def test_how_many_were_taken(self):
        calls = (*[piece(name, 5) for name in range(4)], send(0, 1, 2, 3), put(2, 9))
        answered = last(*calls, back(0, (3, 1), (2, 2), (1, 3), (0, 4)))
        self.assertEqual(answered, [3, 2, 3, 2, 2])

    def test_in_parts(self):
        calls = (piece(0, 5), piece(1, 6), send(0, 1), back(0, (1, 7)), back(0, (0, 8)))
        self.assertEqual(ask(*calls)[3:], [[1, 2], [1, 2]])
        self.assertEqual(stands(*calls), [2, 2, 0])

    def test_each_has_its_own_translation(self):
        calls = (piece(0, 5), piece(1, 6), send(0, 1), back(0, (1, 7), (0, 8)))
        self.assertEqual(translation_of(1, *calls), 7)
        self.assertEqual(translation_of(0, *calls), 8)

    def test_packages_of_other_pieces_in_whatever_order(self):
        start = (piece(0, 5), piece(1, 6), piece(2, 7), send(0), send(1), send(2), put(1, 3))
        coming = (back(0, (0, 7)), back(1, (1, 8)), back(2, (2, 9)))
        outcomes = ([1, 2], [0, 3], [1, 2])
        for order in itertools.permutations(range(3)):
            calls = (*start, *[coming[number] for number in order])
            self.assertEqual(ask(*calls)[len(start):], [outcomes[number] for number in order])
            self.assertEqual(stands(*calls), [3, 3, 1])
            self.assertEqual([translation_of(name, *calls) for name in range(3)], [7, 3, 9])

    def test_packages_of_the_same_piece_in_another_order(self):
        start = (piece(1, 5), send(1), send(1))
        late_first = (*start, back(1, (1, 8)), back(0, (1, 7)))
        self.assertEqual(ask(*late_first)[3:], [[1, 2], [0, 3]])
        self.assertEqual(what_is_open(*late_first), [(1, 0, 5, 7)])
        as_sent = (*start, back(0, (1, 7)), back(1, (1, 8)))
        self.assertEqual(ask(*as_sent)[3:], [[1, 2], [0, 3]])
        self.assertEqual(what_is_open(*as_sent), [(1, 1, 5, 8)])

    def test_a_package_sent_behind_what_was_taken(self):
        calls = (piece(1, 5), send(1), back(0, (1, 7)), send(1), back(1, (1, 8)), back(0, (1, 9)))
        self.assertEqual(ask(*calls)[4:], [[1, 2], [0, 3]])


class OpenTest(unittest.TestCase):

    OPEN = (piece(1, 5), piece(2, 6), send(1, 2), put(1, 8), put(2, 8), back(0, (1, 7), (2, 7)))

    def test_in_the_order_in_which_it_came_to_be_open(self):
        self.assertEqual(what_is_open(*self.OPEN), [(1, 0, 5, 7), (2, 0, 6, 7)])
        other_way = (*self.OPEN[:-1], back(0, (2, 7), (1, 7)))
        self.assertEqual(what_is_open(*other_way), [(2, 0, 6, 7), (1, 0, 5, 7)])

    def test_instead_of_what_was_open_stands_last(self):
        calls = (*self.OPEN, back(0, (1, 9)))
        self.assertEqual(last(*calls), [0, 3])
        self.assertEqual(stands(*calls), [2, 2, 2])
        self.assertEqual(what_is_open(*calls), [(2, 0, 6, 7), (1, 0, 5, 9)])

    def test_instead_of_what_was_open_with_another_outcome(self):
        for meanwhile, outcome in (([text(1, 4)], 4), ([gone(1)], 5)):
            calls = (*self.OPEN, *meanwhile, back(0, (1, 9)))
            self.assertEqual(last(*calls), [0, outcome])
            self.assertEqual(what_is_open(*calls), [(2, 0, 6, 7), (1, 0, 5, 9)])

    def test_the_base_leaves_it_open_where_it_stands(self):
        calls = (*self.OPEN, back(0, (1, 7)))
        self.assertEqual(last(*calls), [0, 1])
        self.assertEqual(what_is_open(*calls), [(1, 0, 5, 7), (2, 0, 6, 7)])

    def test_open_no_more_when_ours_is_theirs(self):
        calls = (*self.OPEN, back(0, (1, 8)))
        self.assertEqual(last(*calls), [0, 0])
        self.assertEqual(stands(*calls), [2, 2, 1])
        self.assertEqual(what_is_open(*calls), [(2, 0, 6, 7)])

    def test_open_no_more_when_taken(self):
        calls = (*self.OPEN, put(1, 7), back(0, (1, 9)))
        self.assertEqual(last(*calls), [1, 2])
        self.assertEqual(stands(*calls), [2, 2, 1])
        self.assertEqual(what_is_open(*calls), [(2, 0, 6, 7)])

    def test_open_again_stands_last(self):
        calls = (*self.OPEN, back(0, (1, 8)), back(0, (1, 8)), put(1, 3), back(0, (1, 4)))
        self.assertEqual(what_is_open(*calls), [(2, 0, 6, 7), (1, 0, 5, 4)])

    def test_each_package_has_its_own_open(self):
        both = (piece(1, 5), send(1), send(1), put(1, 8), back(1, (1, 7)), back(0, (1, 7)))
        self.assertEqual(what_is_open(*both), [(1, 1, 5, 7), (1, 0, 5, 7)])
        self.assertEqual(stands(*both), [1, 1, 2])
        closed = (*both, back(1, (1, 8)))
        self.assertEqual(last(*closed), [0, 0])
        self.assertEqual(what_is_open(*closed), [(1, 0, 5, 7)])

    def test_home_s_work_closes_nothing(self):
        for meanwhile in ([put(1, 7)], [text(1, 4)], [gone(1)], [gone(1), piece(1, 5)], [send(1)]):
            calls = (*self.OPEN, *meanwhile)
            self.assertEqual(what_is_open(*calls), [(1, 0, 5, 7), (2, 0, 6, 7)])

    def test_the_text_that_was_sent_not_the_one_now(self):
        calls = (piece(1, 5), send(1), text(1, 4), send(1), put(1, 8), back(1, (1, 7)), back(0, (1, 7)))
        self.assertEqual(what_is_open(*calls), [(1, 1, 4, 7), (1, 0, 5, 7)])


if __name__ == "__main__":
    unittest.main()
