"""learn, take and shows: what is counted, what the weights are of it, and how they are told."""

import random
import unittest
from itertools import product

from tests.helper import (Listing, ask, best, count, drawn_setting, flat, last_of, learn, lengths, letters, moves,
                          place, shows, start, take, total)

# What shows answers at a list's beginning: place 1, the states 1, then the states (0, 0) (1, 0) (0, 1) (1, 1) (2, 1).
AT_THE_BEGINNING = [1, 1, 1, 1, 1, 1, 1, 1, 1, 1, 1, 1, 1, 1, 1, 1, 1, 0, 1, 1, 0, 1, 1, 0]


def fresh(k):
    return [k, *[1] * 4 * (k + 1), *[1] * 6, *[1, 1, 1] * 3 * (k - 1), *[1, 1, 0] * 3]


class ShowsTest(unittest.TestCase):

    def test_at_the_beginning(self):
        self.assertEqual(ask(shows()), [AT_THE_BEGINNING])
        self.assertEqual(fresh(1), AT_THE_BEGINNING)

    def test_behind_start(self):
        for k in (1, 2, 3, 4):
            self.assertEqual(last_of(start(k), shows()), fresh(k))
            self.assertEqual(len(fresh(k)), 1 + 4 * (k + 1) + 3 * (3 * k + 2))

    def test_letters_of_places_then_of_putting_in(self):
        calls = [start(2), letters(0, 1, 2, 3, 4), letters(1, 5, 6, 7, 8), letters(2, 0, 0, 99, 0)]
        self.assertEqual(last_of(*calls, shows()), [2, 5, 6, 7, 8, 0, 0, 99, 0, 1, 2, 3, 4, *fresh(2)[13:]])

    def test_moves_by_places_then_by_sorts(self):
        rows = [[10, 11, 12], [13, 14, 15], [16, 17, 18], [19, 20, 21], [22, 23, 24], [25, 26, 0], [27, 28, 0],
                [29, 0, 0]]
        states = [(0, 0), (1, 0), (0, 1), (1, 1), (2, 1), (0, 2), (1, 2), (2, 2)]
        calls = [moves(*state, *row) for state, row in zip(states, rows)]
        self.assertEqual(last_of(start(2), *calls[::-1], shows()), [2, *[1] * 12, *flat(rows)])

    def test_nothing_is_changed_by_it(self):
        self.assertEqual(ask(learn(0), shows(), shows(), take(), shows(), shows())[3:],
                         ask(learn(0), take(), shows(), shows())[1:])
        self.assertEqual(ask(learn(0), shows(), take())[-1], [2])

    def test_nothing_is_changed_by_other_calls(self):
        setting = [start(2), letters(1, 1, 2, 3, 4), moves(0, 0, 5, 6, 7), learn(0, 0)]
        for other in (total(1), best(1), count(1), place(0, 1), lengths(1), learn(1), shows()):
            self.assertEqual(last_of(*setting, other, shows()), last_of(*setting, shows()))


class LearnTest(unittest.TestCase):

    def test_tells_the_best_way(self):
        self.assertEqual(ask(learn(), learn(0), learn(0, 1)), [[1, 2, 1], [1, 0, 1], [2, 0, 1, 1, 1]])
        for k, word in product((1, 2, 3, 4), ((), (0,), (1, 1), (0, 1, 2), (3, 3, 3, 3), (0, 1, 2, 3, 0))):
            self.assertEqual(last_of(start(k), learn(*word)), last_of(start(k), best(*word))[4:])
            self.assertEqual(last_of(start(k), learn(*word)), Listing(k).learn(word))

    def test_of_several_the_first(self):
        # On, putting in, leaving out as 1 to 3 to 2 make three ways of one chance; without going on two.
        self.assertEqual(last_of(moves(0, 0, 1, 3, 2), learn(0)), [1, 0, 1])
        self.assertEqual(last_of(moves(0, 0, 0, 3, 2), learn(0)), [2, 1, 0, 2, 1])

    def test_the_likeliest(self):
        self.assertEqual(last_of(moves(0, 0, 1, 1, 99), learn(0)), [2, 2, 1, 1, 1])

    def test_weights_stay_until_take(self):
        asked = [total(0), best(0, 0), shows(), lengths(1), place(0, 0)]
        self.assertEqual(ask(learn(0), learn(0), *asked)[2:], ask(*asked))
        self.assertEqual(ask(*[learn(2)] * 3), [[1, 0, 1]] * 3)


class TakeTest(unittest.TestCase):

    def test_with_nothing_counted(self):
        self.assertEqual(ask(take(), shows()), [[0], AT_THE_BEGINNING])
        for k in (1, 2, 3, 4):
            calls = [start(k)]
            for i in range(k + 1):
                calls.append(letters(i, 9, 0, 4, 7))
                for sort in range(3):
                    calls.append(moves(sort, i, 5, 6, 0 if i == k else 7))
            self.assertEqual(ask(*calls, take(), shows())[-2:], [[0], fresh(k)])

    def test_one_letter_at_its_place(self):
        # From the beginning on, then on to the end; letter 2 at place 1.
        self.assertEqual(ask(learn(2), take(), shows())[1:],
                         [[2], [1, 1, 1, 2, 1, 1, 1, 1, 1, 2, 1, 1, 1, 1, 1, 2, 1, 0, 1, 1, 0, 1, 1, 0]])

    def test_the_empty_word(self):
        # From the beginning leaving out, from (2, 1) on to the end; no letter.
        self.assertEqual(ask(learn(), take(), shows())[1:],
                         [[2], [1, 1, 1, 1, 1, 1, 1, 1, 1, 1, 1, 2, 1, 1, 1, 1, 1, 0, 1, 1, 0, 2, 1, 0]])

    def test_letters_put_in(self):
        # At place 1, then three put in behind it: on; putting in from (0, 1), twice from (1, 1), from there to the end.
        self.assertEqual(ask(learn(0, 1, 1, 3), take(), shows()),
                         [[4, 0, 1, 1, 1, 1, 1, 1, 1], [5],
                          [1, 2, 1, 1, 1, 1, 3, 1, 2, 2, 1, 1, 1, 1, 1, 1, 2, 0, 2, 3, 0, 1, 1, 0]])

    def test_letters_put_in_behind_other_places_are_counted_together(self):
        # Two places left out; one letter put in behind the beginning, one behind place 1, one behind place 2.
        calls = [start(2), moves(0, 0, 0, 1, 1), moves(1, 0, 0, 0, 1), moves(2, 1, 0, 99, 1), moves(1, 1, 0, 0, 1),
                 moves(2, 2, 1, 99, 0), moves(1, 2, 1, 0, 0)]
        given = ask(*calls, learn(0, 1, 0), take(), shows())
        self.assertEqual(given[-3:],
                         [[5, 1, 0, 2, 1, 1, 1, 2, 2, 1, 2], [6],
                          [2, *[1] * 8, 3, 2, 1, 1, 1, 2, 1, 1, 1, 2, 1, 1, 1, 1, 1, 2, 1, 2, 1,
                           1, 1, 0, 2, 1, 0, 1, 2, 0]])

    def test_letters_of_each_place(self):
        calls = [start(4)] + [moves(0, i, 1, 0, 0) for i in range(5)]
        given = ask(*calls, learn(0, 1, 2, 3), learn(0, 3, 2, 1), learn(0, 0, 2, 2), take(), shows())
        self.assertEqual(given[-2], [15])
        self.assertEqual(given[-1], [4, 4, 1, 1, 1, 2, 2, 1, 2, 1, 1, 4, 1, 1, 2, 2, 2, 1, 1, 1, 1,
                                     4, 1, 1, 1, 1, 1, *[4, 1, 1, 1, 1, 1, 1, 1, 1] * 3, 4, 1, 0, 1, 1, 0, 1, 1, 0])

    def test_leaving_out_at_the_last_place_is_0(self):
        for k in (1, 2, 3, 4):
            shown = last_of(start(k), learn(), learn(0), learn(0, 1, 2, 3, 0), take(), shows())
            self.assertEqual(shown[-7::3], [0, 0, 0])
            calls = [start(k), learn(), take(), moves(2, k, 1, 1, 1), moves(2, k, 1, 1, 0)]
            self.assertEqual(ask(*calls)[-2:], [[-1], [0]])

    def test_weights_set_before_are_gone(self):
        self.assertEqual(ask(letters(0, 9, 9, 9, 0), letters(1, 0, 5, 0, 0), moves(0, 0, 7, 7, 7), moves(1, 1, 3, 3, 0),
                             learn(1), take(), shows())[-2:],
                         [[2], [1, 1, 2, 1, 1, 1, 1, 1, 1, 2, 1, 1, 1, 1, 1, 2, 1, 0, 1, 1, 0, 1, 1, 0]])

    def test_take_behind_take(self):
        self.assertEqual(ask(learn(2), take(), take(), shows())[1:], [[2], [0], AT_THE_BEGINNING])
        once = ask(learn(), take(), shows())[-1]
        self.assertEqual(ask(learn(2), learn(2), take(), learn(), take(), shows())[2:], [[4], [1, 2, 1], [2], once])

    def test_what_is_learnt_behind_take_leaves_the_weights(self):
        self.assertEqual(ask(learn(2), take(), shows(), learn(2), shows())[4], ask(learn(2), take(), shows())[2])

    def test_the_next_best_way_is_by_the_new_weights(self):
        # Putting in behind the beginning is made the likeliest and learnt; it stays so by what was counted alone.
        given = ask(moves(0, 0, 1, 99, 1), *[learn(0)] * 5, take(), learn(0))
        self.assertEqual(given[1:], [[2, 1, 0, 2, 1]] * 5 + [[15], [2, 1, 0, 2, 1]])

    def test_total_behind_take(self):
        # On from the beginning 2/4, letter 2 2/5, on to the end 2/3.
        self.assertEqual(ask(learn(2), take(), best(2))[-1], [1, 2, 15, 1, 1, 0, 1])


class CountedTest(unittest.TestCase):

    def test_letters_and_moves_leave_what_is_counted(self):
        between = [letters(0, 9, 0, 0, 0), letters(1, 0, 0, 0, 9), moves(0, 0, 9, 0, 0), moves(2, 1, 4, 5, 0)]
        self.assertEqual(ask(learn(2), *between, take(), shows())[-2:], ask(learn(2), take(), shows())[-2:])

    def test_by_the_weights_of_its_own_time(self):
        self.assertEqual(ask(learn(0), moves(0, 0, 0, 3, 2), learn(0), moves(0, 0, 0, 0, 1), learn(0), take(), shows()),
                         [[1, 0, 1], [0], [2, 1, 0, 2, 1], [0], [2, 2, 1, 1, 1], [8],
                          [1, 2, 1, 1, 1, 3, 1, 1, 1, 2, 2, 2, 1, 1, 2, 2, 1, 0, 2, 1, 0, 2, 2, 0]])

    def test_start_behind_learn(self):
        self.assertEqual(ask(learn(2), learn(0, 0), start(1), take(), shows())[2:], [[1], [0], AT_THE_BEGINNING])
        for k in (1, 2, 3, 4):
            self.assertEqual(ask(start(3), learn(2, 1), start(k), shows(), take(), shows())[2:],
                             [[k], fresh(k), [0], fresh(k)])

    def test_a_refused_start_leaves_what_is_counted(self):
        self.assertEqual(ask(learn(2), start(0), start(5), take())[-1], [2])

    def test_start_behind_take(self):
        self.assertEqual(ask(learn(2), take(), start(1), shows(), total(0))[3:], [AT_THE_BEGINNING, [11, 144]])
        self.assertEqual(ask(learn(2), take(), start(4), shows())[3], fresh(4))

    def test_only_moves_are_told_by_take(self):
        for k, n in product((1, 2, 3, 4), range(6)):
            given = ask(start(k), learn(*[1] * n), learn(*[1] * n), take())
            self.assertEqual(given[3], [2 * (given[1][0] + 1)])

    def test_as_often_as_it_was_counted(self):
        self.assertEqual(ask(*[learn(3)] * 38, take(), shows())[-2:],
                         [[76], [1, 1, 1, 1, 39, 1, 1, 1, 1, 39, 1, 1, 1, 1, 1, 39, 1, 0, 1, 1, 0, 1, 1, 0]])


class AgainstTheListingTest(unittest.TestCase):

    def test_drawn_chains(self):
        draw = random.Random(21)
        for weights in ((0, 1, 1, 1), (0, 1, 99), tuple(range(100))) * 15:
            calls = drawn_setting(draw, draw.randint(1, 4), weights)
            for again in (1, 2):
                for n in (0, 2, 5, 3):
                    calls.append(learn(*[draw.randrange(4) for letter in range(n)]))
                calls.extend([shows(), take(), shows(), total(draw.randrange(4))])
            listing = Listing()
            self.assertEqual(ask(*calls), [listing.answer(call) for call in calls], calls)


if __name__ == "__main__":
    unittest.main()
