"""total, best and count of words (point 3, and the words of ways and their chances)."""

import random
import unittest
from fractions import Fraction
from itertools import product
from math import comb

from tests.helper import Listing, ask, best, count, drawn_setting, last_of, letters, moves, start, total


def asked_of(word):
    return [total(*word), best(*word), count(*word)]


def listed_of(listing, word):
    return [listing.total(word), listing.best(word), listing.count(word)]


class WorkedByHandTest(unittest.TestCase):

    def test_the_empty_word_at_the_beginning(self):
        self.assertEqual(ask(*asked_of(())), [[1, 6], [1, 1, 6, 1, 1, 2, 1], [1]])

    def test_one_letter_at_the_beginning(self):
        # At place 1: 1/3 1/4 1/2. Put in, place 1 left out: 1/3 1/4 1/3 1/2. Left out, put in: 1/3 1/2 1/4 1/2.
        for letter in range(4):
            self.assertEqual(ask(*asked_of((letter,))), [[11, 144], [1, 1, 24, 1, 1, 0, 1], [3]])

    def test_two_letters_on_two_places(self):
        # Only the places make letters, none is left out: 1/2 of 3/4 at each, all moves sure.
        calls = [start(2), moves(0, 0, 1, 0, 0), moves(0, 1, 1, 0, 0), moves(0, 2, 1, 0, 0),
                 letters(1, 3, 1, 0, 0), letters(2, 0, 0, 2, 2)]
        self.assertEqual(ask(*calls, *asked_of((0, 3)))[-3:], [[3, 8], [1, 3, 8, 1, 2, 0, 1, 0, 2], [1]])
        self.assertEqual(ask(*calls, *asked_of((3, 0)))[-3:], [[0, 1], [0], [0]])

    def test_all_letters_put_in(self):
        # Five letters behind the beginning, each going to putting in 1/2, then one place left out.
        calls = [moves(0, 0, 0, 1, 1), moves(1, 0, 0, 1, 1), moves(2, 1, 1, 0, 0)]
        self.assertEqual(ask(*calls, *asked_of((0, 1, 2, 3, 0)))[-3:],
                         [[1, 4 ** 5 * 2 ** 6], [1, 1, 4 ** 5 * 2 ** 6, 1, 6, 1, 0, 1, 0, 1, 0, 1, 0, 1, 0, 2, 1], [1]])

    def test_how_many_ways_there_are(self):
        # j of K places make a letter, the other n - j are put in behind the K + 1 places there are with the beginning.
        for k, n in product((1, 2, 3, 4), range(6)):
            ways = sum(comb(k, j) * comb(n - j + k, k) for j in range(min(k, n) + 1))
            self.assertEqual(last_of(start(k), count(*[n % 4] * n)), [ways])
        self.assertEqual(last_of(start(4), count(0, 1, 2, 3, 0)), [681])

    def test_letters_put_in_behind_the_last_place(self):
        calls = [moves(0, 0, 1, 0, 0), moves(0, 1, 1, 3, 0), moves(1, 1, 1, 1, 0)]
        # 1/4, then 3/4 1/4, 1/2 1/4, and 1/2 to the end.
        self.assertEqual(last_of(*calls, best(0, 0, 0)), [1, 3, 1024, 1, 3, 0, 1, 1, 1, 1, 1])

    def test_brought_to_lowest_terms(self):
        calls = [moves(0, 0, 6, 0, 4), moves(0, 1, 4, 0, 0), letters(1, 10, 10, 20, 0), moves(2, 1, 10, 0, 0)]
        self.assertEqual(ask(*calls, total(2), total(), best(0))[-3:], [[3, 10], [2, 5], [1, 3, 20, 1, 1, 0, 1]])

    def test_a_sure_word(self):
        calls = [moves(0, 0, 0, 0, 7), moves(2, 1, 7, 0, 0)]
        self.assertEqual(ask(*calls, *asked_of(()))[-3:], [[1, 1], [1, 1, 1, 1, 1, 2, 1], [1]])


class NoWayTest(unittest.TestCase):

    def test_a_letter_that_nothing_makes(self):
        calls = [letters(0, 1, 1, 1, 0), letters(1, 1, 1, 1, 0)]
        for word in ((3,), (0, 3), (3, 0), (0, 1, 2, 2, 3)):
            self.assertEqual(ask(*calls, *asked_of(word))[-3:], [[0, 1], [0], [0]])
        self.assertEqual(last_of(*calls, count(2)), [3])

    def test_the_empty_word_where_no_place_is_left_out(self):
        self.assertEqual(ask(moves(0, 0, 1, 1, 0), moves(1, 0, 1, 1, 0), *asked_of(()))[-3:], [[0, 1], [0], [0]])

    def test_a_word_too_short_or_too_long_for_the_places(self):
        calls = [start(3)] + [moves(0, i, 1, 0, 0) for i in range(4)]
        for n in range(6):
            self.assertEqual(last_of(*calls, count(*[0] * n)), [1 if n == 3 else 0])

    def test_ways_with_a_chance_of_0_are_not_told(self):
        # Putting in behind the beginning has no weight: two of the three ways are left.
        self.assertEqual(ask(moves(0, 0, 1, 0, 1), count(0)), [[0], [2]])
        # Place 1 doesn't make letter 0: again two of three.
        self.assertEqual(ask(letters(1, 0, 1, 1, 1), count(0), best(0)), [[0], [2], [1, 1, 48, 1, 2, 2, 1, 1, 1]])


class SeveralBestTest(unittest.TestCase):

    def test_at_the_place_ahead_of_putting_in(self):
        # 1/5 1/4 1/2 and 3/5 1/4 1/3 1/2 are the same; the third has half of it.
        self.assertEqual(last_of(moves(0, 0, 1, 3, 1), best(0)), [1, 1, 40, 2, 1, 0, 1])

    def test_putting_in_ahead_of_leaving_out(self):
        # 3/5 1/4 1/3 1/2 and 2/5 1/2 1/4 1/2.
        self.assertEqual(last_of(moves(0, 0, 0, 3, 2), best(0)), [1, 1, 40, 2, 2, 1, 0, 2, 1])

    def test_at_the_place_ahead_of_leaving_out(self):
        # 2/7 1/4 1/2 and 4/7 1/2 1/4 1/2; putting in has 1/7 1/4 1/3 1/2.
        self.assertEqual(last_of(moves(0, 0, 2, 1, 4), best(0)), [1, 1, 28, 2, 1, 0, 1])

    def test_three_of_them(self):
        # On, putting in, leaving out as 1 to 3 to 2.
        self.assertEqual(last_of(moves(0, 0, 1, 3, 2), best(0)), [1, 1, 48, 3, 1, 0, 1])

    def test_the_first_difference_counts_not_the_later_ones(self):
        # Two places, one letter; each place makes it or is left out, with the same chance.
        calls = [start(2), moves(0, 0, 1, 0, 1), moves(0, 1, 0, 0, 1), moves(2, 1, 1, 0, 0),
                 moves(0, 2, 1, 0, 0), moves(2, 2, 1, 0, 0)]
        self.assertEqual(last_of(*calls, best(0)), [1, 1, 8, 2, 2, 0, 1, 2, 2])

    def test_many_of_them(self):
        # All weights are alike, so that ways through states of other sorts often have the same chance.
        for k, word in product((1, 2, 3, 4), ((), (0,), (1, 1), (0, 1, 2), (3, 3, 3, 3), (0, 1, 2, 3, 0))):
            self.assertEqual(last_of(start(k), best(*word)), Listing(k).best(word))

    def test_likelier_is_ahead_of_first(self):
        self.assertEqual(last_of(moves(0, 0, 1, 1, 99), best(0)), [1, 99, 1616, 1, 2, 2, 1, 1, 1])


class AgainstTheListingTest(unittest.TestCase):

    def check_drawn(self, seed, weights):
        draw = random.Random(seed)
        tied = 0
        for chain in range(60):
            listing = Listing()
            calls = drawn_setting(draw, draw.randint(1, 4), weights)
            for n in range(6):
                calls.extend(asked_of([draw.randrange(4) for letter in range(n)]))
            expected = [listing.answer(call) for call in calls]
            self.assertEqual(ask(*calls), expected, calls)
            tied += sum(1 for call, answer in zip(calls, expected) if call[0] == 4 and answer[0] == 1 and answer[3] > 1)
        return tied

    def test_small_weights_with_many_ties(self):
        self.assertGreater(self.check_drawn(1, (0, 1, 1, 1)), 20)

    def test_any_weights(self):
        self.check_drawn(2, tuple(range(100)))

    def test_weights_of_0_and_99(self):
        self.check_drawn(3, (0, 99))

    def test_all_words_of_a_length_on_a_chain_without_putting_in(self):
        # Three places, each left out with 1/4: by hand, as often as three throws give so many.
        calls = [start(3)]
        for i in range(4):
            for sort in (0, 2):
                if (sort, i) != (2, 0):
                    calls.append(moves(sort, i, 1 if i == 3 else 3, 0, 0 if i == 3 else 1))
        for n in range(4):
            whole = Fraction(0)
            for word in product(range(4), repeat=n):
                upper, lower = last_of(*calls, total(*word))
                whole += Fraction(upper, lower)
            self.assertEqual(whole, comb(3, n) * Fraction(3, 4) ** n * Fraction(1, 4) ** (3 - n))


if __name__ == "__main__":
    unittest.main()
