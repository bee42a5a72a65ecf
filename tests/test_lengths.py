"""lengths: how likely a word of so many letters is; all words of a length together."""

import random
import unittest
from fractions import Fraction
from itertools import product
from math import comb

from tests.helper import Listing, ask, drawn_setting, last_of, learn, lengths, letters, moves, start, take, total


def together(setting, n):
    # Some words at a time, so that no list has more than 40 calls.
    room = 40 - len(setting)
    words = list(product(range(4), repeat=n))
    whole = Fraction(0)
    for at in range(0, len(words), room):
        for upper, lower in ask(*setting, *[total(*word) for word in words[at:at + room]])[len(setting):]:
            whole += Fraction(upper, lower)
    return [whole.numerator, whole.denominator]


class WorkedByHandTest(unittest.TestCase):

    def test_at_the_beginning(self):
        # No letter: left out, 1/6. One: four words of 11/144. Two: 16 words of 1/16 49/216.
        self.assertEqual(ask(lengths(0), lengths(1), lengths(2)), [[1, 6], [11, 36], [49, 216]])

    def test_no_letters_on_k_places(self):
        for k in (1, 2, 3, 4):
            self.assertEqual(last_of(start(k), lengths(0)), [1, 2 * 3 ** k])

    def test_just_as_many_as_places(self):
        for k in (1, 2, 3, 4):
            calls = [start(k)] + [moves(0, i, 1, 0, 0) for i in range(k + 1)]
            for n in range(9):
                self.assertEqual(last_of(*calls, lengths(n)), [1, 1] if n == k else [0, 1])

    def test_places_left_out(self):
        # Four places, each left out with 1/4, nothing put in: as often as four throws give so many.
        calls = [start(4)]
        for i in range(5):
            for sort in (0, 2):
                if (sort, i) != (2, 0):
                    calls.append(moves(sort, i, 1 if i == 4 else 3, 0, 0 if i == 4 else 1))
        for n in range(9):
            expected = Fraction(comb(4, n) * 3 ** n, 4 ** 4)
            self.assertEqual(last_of(*calls, lengths(n)), [expected.numerator, expected.denominator])

    def test_letters_put_in_to_the_longest(self):
        # Letters are put in behind the beginning with 2/3 each, place 1 is left out.
        calls = [moves(0, 0, 0, 2, 1), moves(1, 0, 0, 2, 1), moves(2, 1, 1, 0, 0)]
        for n in range(9):
            self.assertEqual(last_of(*calls, lengths(n)), [2 ** n, 3 ** (n + 1)])

    def test_in_lowest_terms(self):
        self.assertEqual(ask(moves(0, 0, 60, 0, 40), moves(2, 1, 99, 0, 0), moves(0, 1, 50, 50, 0), lengths(0),
                             lengths(1))[3:], [[2, 5], [3, 10]])


class AllWordsTogetherTest(unittest.TestCase):

    def test_at_the_beginning(self):
        for k, n in product((1, 2, 4), range(5)):
            self.assertEqual(last_of(start(k), lengths(n)), together([start(k)], n))
        self.assertEqual(last_of(lengths(5)), together([], 5))

    def test_on_drawn_chains(self):
        draw = random.Random(12)
        for k, weights in product((1, 2, 3, 4), ((0, 1, 5), tuple(range(100)))):
            setting = drawn_setting(draw, k, weights)
            for n in range(4):
                self.assertEqual(last_of(*setting, lengths(n)), together(setting, n), setting)

    def test_five_letters_on_four_places(self):
        setting = drawn_setting(random.Random(13), 4, (0, 1, 2, 9))
        self.assertEqual(last_of(*setting, lengths(5)), together(setting, 5))

    def test_behind_learning(self):
        setting = [start(2), learn(0, 1), learn(0, 1, 1), learn(3), take()]
        for n in range(4):
            self.assertEqual(last_of(*setting, lengths(n)), together(setting, n))


class AgainstTheListingTest(unittest.TestCase):

    def test_every_length(self):
        draw = random.Random(14)
        for weights in ((0, 1, 1), (0, 99), tuple(range(100))) * 4:
            calls = drawn_setting(draw, draw.randint(1, 4), weights) + [lengths(n) for n in range(9)]
            listing = Listing()
            self.assertEqual(ask(*calls), [listing.answer(call) for call in calls], calls)

    def test_letters_weights_make_no_difference(self):
        asked = [lengths(n) for n in range(9)]
        other = [letters(0, 0, 0, 0, 1), letters(1, 99, 0, 3, 0), letters(2, 0, 1, 0, 0)]
        self.assertEqual(ask(start(2), *asked)[1:], ask(start(2), *other, *asked)[4:])


if __name__ == "__main__":
    unittest.main()
