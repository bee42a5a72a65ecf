"""What is refused, and that all is as it was behind it (points 1, 2 and 3)."""

import unittest

from tests.helper import (LARGEST, ask, best, count, last_of, learn, lengths, letters, moves, place, shows, start, take,
                          total)

# A chain with other weights everywhere and something counted, so that a change of any of them shows in the probes.
SETTING = (
    start(2),
    letters(0, 2, 3, 5, 7),
    letters(1, 11, 13, 17, 19),
    letters(2, 23, 29, 31, 37),
    moves(0, 0, 3, 4, 5),
    moves(1, 0, 5, 3, 4),
    moves(0, 1, 7, 8, 9),
    moves(1, 1, 9, 7, 8),
    moves(2, 1, 8, 9, 7),
    moves(0, 2, 13, 11, 0),
    moves(1, 2, 17, 16, 0),
    moves(2, 2, 19, 20, 0),
    learn(3, 1, 2),
    learn(),
)
PROBES = (total(), total(3), total(0, 1), best(3, 2, 1), count(0, 0), place(1, 3, 1, 2, 0), shows(), learn(0), take(),
          shows())


class CheckedTest(unittest.TestCase):

    def check_as_it_was(self, setting, call, refusal):
        with self.subTest(call=call):
            given = ask(*setting, *PROBES)
            given.insert(len(setting), [refusal])
            self.assertEqual(ask(*setting, call, *PROBES), given)

    def check_refused(self, *refused):
        for call in refused:
            self.check_as_it_was(SETTING, call, -1)


class RefusalTest(CheckedTest):

    def test_the_setting_itself_is_taken(self):
        given = ask(*SETTING, shows(), take())
        self.assertEqual(given[:12], [[2]] + [[0]] * 11)
        self.assertEqual(given[14], [2, 11, 13, 17, 19, 23, 29, 31, 37, 2, 3, 5, 7, 3, 4, 5, 5, 3, 4,
                                     7, 8, 9, 9, 7, 8, 8, 9, 7, 13, 11, 0, 17, 16, 0, 19, 20, 0])
        self.assertEqual(given[15], [given[12][0] + 1 + given[13][0] + 1])

    def test_start(self):
        self.check_refused(start(0), start(5), start(6), start(99), start(LARGEST))

    def test_letters_of_no_place(self):
        self.check_refused(letters(3, 1, 1, 1, 1), letters(4, 1, 1, 1, 1), letters(LARGEST, 1, 1, 1, 1))

    def test_letters_of_other_than_four_weights(self):
        for i in (0, 1, 2):
            self.check_refused(*[letters(i, *[1] * size) for size in range(11) if size != 4])

    def test_letters_with_a_weight_above_99(self):
        for i in (0, 2):
            for at in range(4):
                for weight in (100, 101, LARGEST):
                    weights = [1, 1, 1, 1]
                    weights[at] = weight
                    self.check_refused(letters(i, *weights))

    def test_letters_with_all_weights_0(self):
        self.check_refused(letters(0, 0, 0, 0, 0), letters(1, 0, 0, 0, 0), letters(2, 0, 0, 0, 0))

    def test_letters_wrong_in_several_ways(self):
        self.check_refused(letters(9), letters(LARGEST, *[LARGEST] * 10), letters(0, *[0] * 10), letters(1, 100, 0, 0))

    def test_moves_of_a_sort_above_2(self):
        self.check_refused(*[moves(sort, i, 1, 1, 0) for sort in (3, 4, LARGEST) for i in (0, 1, 2)])

    def test_moves_of_a_place_above_k(self):
        self.check_refused(*[moves(sort, i, 1, 1, 0) for sort in (0, 1, 2) for i in (3, 4, LARGEST)])

    def test_moves_of_leaving_out_the_beginning(self):
        self.check_refused(moves(2, 0, 1, 1, 1), moves(2, 0, 1, 1, 0))

    def test_moves_with_a_weight_above_99(self):
        for weight in (100, LARGEST):
            self.check_refused(moves(0, 0, weight, 1, 1), moves(1, 1, 1, weight, 1), moves(2, 1, 1, 1, weight),
                               moves(0, 2, weight, 1, 0), moves(1, 2, 1, weight, 0), moves(2, 2, 1, 1, weight))

    def test_moves_that_leave_out_behind_the_last_place(self):
        self.check_refused(*[moves(sort, 2, 1, 1, leaving) for sort in (0, 1, 2) for leaving in (1, 99)])

    def test_moves_that_neither_go_on_nor_leave_out(self):
        states = ((0, 0), (1, 0), (0, 1), (1, 1), (2, 1), (0, 2), (1, 2), (2, 2))
        self.check_refused(*[moves(sort, i, 0, 1, 0) for sort, i in states])
        self.check_refused(*[moves(sort, i, 0, 0, 0) for sort, i in states])
        self.check_refused(*[moves(sort, 2, 0, 1, 1) for sort in (0, 1, 2)])

    def test_moves_wrong_in_several_ways(self):
        self.check_refused(moves(*[LARGEST] * 5), moves(3, 0, 0, 0, 0), moves(0, 9, 100, 1, 1))

    def test_the_last_place_is_k_of_the_latest_start(self):
        self.assertEqual(ask(moves(0, 1, 1, 1, 1), start(2), moves(0, 1, 0, 1, 1), moves(0, 2, 1, 1, 1),
                             start(4), moves(2, 3, 0, 0, 1), moves(2, 4, 1, 0, 1), moves(2, 4, 1, 0, 0),
                             letters(4, 0, 0, 1, 0), letters(5, 0, 0, 1, 0)),
                         [[-1], [2], [0], [-1], [4], [0], [-1], [0], [0], [-1]])

    def test_before_any_start(self):
        self.assertEqual(ask(start(0), letters(2, 1, 1, 1, 1), moves(0, 2, 1, 0, 0), moves(2, 1, 1, 1, 1), total()),
                         [[-1], [-1], [-1], [-1], [1, 6]])

    def test_words_of_more_than_five_letters(self):
        for size in range(6, 13):
            word = [0, 1, 2, 3] * 3
            self.check_refused(*[call(*word[:size]) for call in (total, best, count, learn)])
            self.check_refused(*[place(i, *word[:size]) for i in (0, 4, 5, size - 1, size)])

    def test_words_with_a_letter_above_3(self):
        for letter in (4, 5, LARGEST):
            for word in ((letter,), (letter, 0), (0, letter), (0, 1, 2, 3, letter), (letter,) * 5, (letter,) * 12):
                self.check_refused(*[call(*word) for call in (total, best, count, learn)])
                self.check_refused(*[place(i, *word) for i in (0, len(word) - 1, len(word))])

    def test_a_wrong_word_is_refused_where_there_is_no_way_either(self):
        calls = (letters(0, 1, 0, 0, 0), letters(1, 1, 0, 0, 0))
        self.assertEqual(ask(*calls, best(1), best(4), best(1, 1, 1, 1, 1, 1), total(4), count(4))[2:],
                         [[0], [-1], [-1], [-1], [-1]])

    def test_the_most_that_is_taken(self):
        self.assertEqual(ask(start(4), letters(4, 99, 99, 99, 99), moves(2, 4, 99, 99, 0), moves(1, 3, 99, 99, 99)),
                         [[4], [0], [0], [0]])
        for call in (total, best, count, learn):
            self.assertGreater(ask(call(3, 3, 3, 3, 3))[0][0], 0)
        self.assertGreater(last_of(place(4, 3, 3, 3, 3, 3))[0], 0)
        self.assertGreater(last_of(lengths(8))[0], 0)


class LaterRefusalTest(CheckedTest):

    def test_place_of_no_letter(self):
        for word in ((), (0,), (3, 1), (0, 1, 2, 3, 0)):
            self.check_refused(*[place(i, *word) for i in (len(word), len(word) + 1, 12, LARGEST)])

    def test_lengths_above_8(self):
        self.check_refused(*[lengths(n) for n in (9, 10, 99, LARGEST)])

    def test_no_way_makes_the_word(self):
        # Nothing makes letter 3; and each move from the beginning makes a letter, so there's no empty word.
        setting = (*SETTING, *[letters(i, 1, 1, 1, 0) for i in (0, 1, 2)], moves(0, 0, 1, 1, 0))
        for word in ((), (3,), (0, 3), (3, 0), (0, 1, 3, 2, 0), (3, 3, 3, 3, 3)):
            self.check_as_it_was(setting, learn(*word), -6)
            for i in range(len(word)):
                self.check_as_it_was(setting, place(i, *word), -6)
            self.assertEqual(ask(*setting, total(*word), best(*word), count(*word))[-3:], [[0, 1], [0], [0]])

    def test_a_wrong_word_is_told_ahead_of_no_way(self):
        setting = (*SETTING, letters(0, 1, 0, 0, 0), letters(1, 1, 0, 0, 0), letters(2, 1, 0, 0, 0))
        self.check_as_it_was(setting, learn(1), -6)
        self.check_as_it_was(setting, place(0, 1), -6)
        for word in ((4,), (1, 4), (1, 1, 1, 1, 1, 1), (LARGEST,) * 12):
            self.check_as_it_was(setting, learn(*word), -1)
            self.check_as_it_was(setting, place(0, *word), -1)
        for i in (1, 2, LARGEST):
            self.check_as_it_was(setting, place(i, 1), -1)

    def test_what_is_refused_is_not_counted(self):
        calls = [letters(0, 1, 1, 1, 0), letters(1, 1, 1, 1, 0), learn(3), learn(4), learn(*[0] * 6), take()]
        self.assertEqual(ask(*calls), [[0], [0], [-6], [-1], [-1], [0]])


class TooManyCountedTest(CheckedTest):

    # At the beginning, with four places, the empty word has a way of 4 states and 5 moves, the only one there is.
    EMPTY = [4, 2, 1, 2, 2, 2, 3, 2, 4]
    # These weights make every state leave out the next place, or put in letters as long as there are any.
    LONG_WAYS = (start(4), moves(0, 0, 0, 1, 1), moves(1, 0, 0, 1, 1), moves(2, 1, 0, 0, 1), moves(2, 2, 0, 0, 1),
                 moves(2, 3, 0, 0, 1), moves(2, 4, 1, 0, 0))

    def test_as_many_as_there_may_be(self):
        # 17 times 5 moves and 4 states are 89; 18 times 5 and 4 are 94.
        given = ask(start(4), *[learn()] * 20, take())
        self.assertEqual(given, [[4], *[self.EMPTY] * 18, [-5], [-5], [90]])

    def test_just_90(self):
        # A way of 5 states and 6 moves, then 16 of 5 moves: 86 are counted, and 4 states make it 90.
        setting = (*self.LONG_WAYS, learn(0), *[learn()] * 16)
        self.assertEqual(ask(*setting, take())[-1], [86])
        self.assertEqual(ask(*setting, learn(), take())[-2:], [self.EMPTY, [91]])
        self.check_as_it_was(setting, learn(0), -5)

    def test_just_91(self):
        # Two ways of 6 moves, then 15 of 5: 87 are counted, and 4 states make it 91.
        setting = (*self.LONG_WAYS, learn(0), learn(1), *[learn()] * 15)
        self.assertEqual(ask(*setting, take())[-1], [87])
        self.check_as_it_was(setting, learn(), -5)

    def test_the_longest_way(self):
        # 9 states and 10 moves each: 80 and 9 are 89, and 81 and 9 are just 90.
        word = (3, 2, 1, 0, 3)
        self.assertEqual(ask(*self.LONG_WAYS, *[learn(*word)] * 9, learn(*word), learn(), take())[7:],
                         [[9, *[1, 0] * 5, 2, 1, 2, 2, 2, 3, 2, 4]] * 9 + [[-5], [-5], [90]])
        setting = (*self.LONG_WAYS, learn(0), *[learn()] * 5, *[learn(*word)] * 5)
        self.assertEqual(ask(*setting, take())[-1], [81])
        self.assertEqual(last_of(*setting, learn(*word), take()), [91])

    def test_one_state_is_too_many_too(self):
        # One place: 14 ways of 6 moves are 84, each empty word has 2 moves and the fewest states there are, one.
        long_words = (start(1), *[learn(0, 1, 2, 3, 0)] * 14)
        self.assertEqual(ask(*long_words, take())[-1], [84])
        self.assertEqual(ask(*long_words, *[learn()] * 4, take())[-5:], [[1, 2, 1]] * 3 + [[-5], [90]])
        self.check_as_it_was((*long_words, *[learn()] * 3), learn(), -5)
        # With a way of 3 moves 89 are counted, and one state makes it 90.
        self.assertEqual(ask(*long_words, learn(0, 0), *[learn()] * 3, take())[-5:],
                         [[2, 0, 1, 1, 1], [1, 2, 1], [1, 2, 1], [-5], [91]])

    def test_start_and_take_make_room(self):
        setting = (start(4), *[learn()] * 18)
        self.assertEqual(ask(*setting, learn(), start(4), learn(), take())[-4:], [[-5], [4], self.EMPTY, [5]])
        self.assertEqual(ask(*setting, learn(), take(), learn(), take())[-4:], [[-5], [90], self.EMPTY, [5]])

    def test_other_calls_make_none(self):
        setting = (start(4), *[learn()] * 18)
        others = (letters(1, 1, 1, 1, 1), moves(0, 0, 1, 1, 1), total(), best(), count(), place(0, 0), lengths(0),
                  shows(), start(5), learn(4))
        for other in others:
            self.check_as_it_was((*setting, other), learn(), -5)

    def test_a_wrong_word_and_no_way_are_told_first(self):
        setting = (start(4), *[learn()] * 18, letters(0, 1, 1, 1, 0), *[letters(i, 1, 1, 1, 0) for i in (1, 2, 3, 4)])
        self.check_as_it_was(setting, learn(3), -6)
        self.check_as_it_was(setting, learn(0, 3), -6)
        self.check_as_it_was(setting, learn(4), -1)
        self.check_as_it_was(setting, learn(3, 3, 3, 3, 3, 3), -1)
        self.check_as_it_was(setting, learn(2), -5)


if __name__ == "__main__":
    unittest.main()
