"""What is refused, and that all is as it was behind it (points 1, 2 and 3)."""

import unittest

from tests.helper import LARGEST, ask, best, count, letters, moves, start, total

# A chain with other weights everywhere, so that a change of any of them shows in the probes.
SETTING = (
    start(2),
    letters(0, 2, 3, 5, 7),
    letters(1, 11, 13, 17, 19),
    letters(2, 23, 29, 31, 37),
    moves(0, 0, 3, 4, 5),
    moves(1, 0, 5, 3, 4),
    moves(0, 1, 7, 8, 9),
    moves(1, 1, 9, 7, 8),
    moves(2, 1, 8, 9, 7),
    moves(0, 2, 13, 11, 0),
    moves(1, 2, 17, 16, 0),
    moves(2, 2, 19, 20, 0),
)
PROBES = (total(), total(0), total(1), total(2), total(3), total(0, 1), best(3, 2, 1), count(0, 0), total(3, 1, 2, 0))


class RefusalTest(unittest.TestCase):

    def check_refused(self, *refused):
        before = ask(*SETTING, *PROBES)
        for call in refused:
            with self.subTest(call=call):
                given = ask(*SETTING, *PROBES, call, *PROBES)
                self.assertEqual(given[:len(before)], before)
                self.assertEqual(given[len(before)], [-1])
                self.assertEqual(given[len(before) + 1:], before[len(SETTING):])

    def test_the_setting_itself_is_taken(self):
        self.assertEqual(ask(*SETTING), [[2]] + [[0]] * 11)

    def test_start(self):
        self.check_refused(start(0), start(5), start(6), start(99), start(LARGEST))

    def test_letters_of_no_place(self):
        self.check_refused(letters(3, 1, 1, 1, 1), letters(4, 1, 1, 1, 1), letters(LARGEST, 1, 1, 1, 1))

    def test_letters_of_other_than_four_weights(self):
        for i in (0, 1, 2):
            self.check_refused(*[letters(i, *[1] * size) for size in range(11) if size != 4])

    def test_letters_with_a_weight_above_99(self):
        for i in (0, 2):
            for at in range(4):
                for weight in (100, 101, LARGEST):
                    weights = [1, 1, 1, 1]
                    weights[at] = weight
                    self.check_refused(letters(i, *weights))

    def test_letters_with_all_weights_0(self):
        self.check_refused(letters(0, 0, 0, 0, 0), letters(1, 0, 0, 0, 0), letters(2, 0, 0, 0, 0))

    def test_letters_wrong_in_several_ways(self):
        self.check_refused(letters(9), letters(LARGEST, *[LARGEST] * 10), letters(0, *[0] * 10), letters(1, 100, 0, 0))

    def test_moves_of_a_sort_above_2(self):
        self.check_refused(*[moves(sort, i, 1, 1, 0) for sort in (3, 4, LARGEST) for i in (0, 1, 2)])

    def test_moves_of_a_place_above_k(self):
        self.check_refused(*[moves(sort, i, 1, 1, 0) for sort in (0, 1, 2) for i in (3, 4, LARGEST)])

    def test_moves_of_leaving_out_the_beginning(self):
        self.check_refused(moves(2, 0, 1, 1, 1), moves(2, 0, 1, 1, 0))

    def test_moves_with_a_weight_above_99(self):
        for weight in (100, LARGEST):
            self.check_refused(moves(0, 0, weight, 1, 1), moves(1, 1, 1, weight, 1), moves(2, 1, 1, 1, weight),
                               moves(0, 2, weight, 1, 0), moves(1, 2, 1, weight, 0), moves(2, 2, 1, 1, weight))

    def test_moves_that_leave_out_behind_the_last_place(self):
        self.check_refused(*[moves(sort, 2, 1, 1, leaving) for sort in (0, 1, 2) for leaving in (1, 99)])

    def test_moves_that_neither_go_on_nor_leave_out(self):
        states = ((0, 0), (1, 0), (0, 1), (1, 1), (2, 1), (0, 2), (1, 2), (2, 2))
        self.check_refused(*[moves(sort, i, 0, 1, 0) for sort, i in states])
        self.check_refused(*[moves(sort, i, 0, 0, 0) for sort, i in states])
        self.check_refused(*[moves(sort, 2, 0, 1, 1) for sort in (0, 1, 2)])

    def test_moves_wrong_in_several_ways(self):
        self.check_refused(moves(*[LARGEST] * 5), moves(3, 0, 0, 0, 0), moves(0, 9, 100, 1, 1))

    def test_the_last_place_is_k_of_the_latest_start(self):
        self.assertEqual(ask(moves(0, 1, 1, 1, 1), start(2), moves(0, 1, 0, 1, 1), moves(0, 2, 1, 1, 1),
                             start(4), moves(2, 3, 0, 0, 1), moves(2, 4, 1, 0, 1), moves(2, 4, 1, 0, 0),
                             letters(4, 0, 0, 1, 0), letters(5, 0, 0, 1, 0)),
                         [[-1], [2], [0], [-1], [4], [0], [-1], [0], [0], [-1]])

    def test_before_any_start(self):
        self.assertEqual(ask(start(0), letters(2, 1, 1, 1, 1), moves(0, 2, 1, 0, 0), moves(2, 1, 1, 1, 1), total()),
                         [[-1], [-1], [-1], [-1], [1, 6]])

    def test_words_of_more_than_five_letters(self):
        for size in range(6, 13):
            word = [0, 1, 2, 3] * 3
            self.check_refused(total(*word[:size]), best(*word[:size]), count(*word[:size]))

    def test_words_with_a_letter_above_3(self):
        for letter in (4, 5, LARGEST):
            for word in ((letter,), (letter, 0), (0, letter), (0, 1, 2, 3, letter), (letter,) * 5, (letter,) * 12):
                self.check_refused(total(*word), best(*word), count(*word))

    def test_a_wrong_word_is_refused_where_there_is_no_way_either(self):
        calls = (letters(0, 1, 0, 0, 0), letters(1, 1, 0, 0, 0))
        self.assertEqual(ask(*calls, best(1), best(4), best(1, 1, 1, 1, 1, 1), total(4), count(4))[2:],
                         [[0], [-1], [-1], [-1], [-1]])

    def test_the_most_that_is_taken(self):
        self.assertEqual(ask(start(4), letters(4, 99, 99, 99, 99), moves(2, 4, 99, 99, 0), moves(1, 3, 99, 99, 99)),
                         [[4], [0], [0], [0]])
        for call in (total, best, count):
            self.assertGreater(ask(call(3, 3, 3, 3, 3))[0][0], 0)


if __name__ == "__main__":
    unittest.main()
