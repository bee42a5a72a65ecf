"""place: by which states a letter of a word is made, and how likely by each."""

import random
import unittest
from fractions import Fraction
from itertools import product

from tests.helper import Listing, ask, drawn_setting, last_of, letters, moves, place, start, total


def makers_of(answer):
    makers = {}
    for at in range(1, len(answer), 4):
        sort, i, upper, lower = answer[at:at + 4]
        makers[(sort, i)] = Fraction(upper, lower)
    return makers


class WorkedByHandTest(unittest.TestCase):

    def test_one_letter_at_the_beginning(self):
        # Put in ahead of place 1 left out 2/144, at place 1 6/144, put in behind it 3/144, all of 11/144.
        for letter in range(4):
            self.assertEqual(ask(place(0, letter)), [[3, 1, 0, 2, 11, 0, 1, 6, 11, 1, 1, 3, 11]])

    def test_two_letters_at_the_beginning(self):
        # Each of the two letters 1/4; then the moves of the five ways: put in, put in, left out 1/54; put in, at
        # place 1 1/18; put in, left out, put in 1/36; at place 1, put in 1/12; left out, put in, put in 1/24. In
        # 216ths that's 4, 12, 6, 18, 9, together 49.
        self.assertEqual(ask(place(0, 2, 3), place(1, 2, 3)),
                         [[3, 1, 0, 22, 49, 0, 1, 18, 49, 1, 1, 9, 49], [3, 1, 0, 4, 49, 0, 1, 12, 49, 1, 1, 33, 49]])

    def test_the_letters_weights_tell(self):
        # Place 1 makes letter 0 three times of four, putting in once of four.
        calls = [letters(1, 3, 1, 0, 0), letters(0, 1, 1, 1, 1)]
        # 1/72, 1/3 3/4 1/2 and 1/48 are 2, 18, 3 of 144.
        self.assertEqual(last_of(*calls, place(0, 0)), [3, 1, 0, 2, 23, 0, 1, 18, 23, 1, 1, 3, 23])
        # Letter 1 has the same chance everywhere, letters 2 and 3 are never made at the place.
        self.assertEqual(last_of(*calls, place(0, 1)), [3, 1, 0, 2, 11, 0, 1, 6, 11, 1, 1, 3, 11])
        self.assertEqual(last_of(*calls, place(0, 3)), [2, 1, 0, 2, 5, 1, 1, 3, 5])

    def test_a_letter_tells_of_the_ones_beside_it(self):
        # Places 1 to 3 make one letter each or are left out, nothing is put in.
        calls = [start(3), letters(1, 1, 0, 0, 0), letters(2, 1, 1, 0, 0), letters(3, 1, 0, 1, 0)]
        for sort, i in product((0, 2), range(4)):
            if (sort, i) != (2, 0):
                calls.append(moves(sort, i, 1, 0, 0 if i == 3 else 1))
        # Each way has three moves of 1/2 and one sure; 0 0: places 1 2 1/2, 1 3 1/2, 2 3 1/4.
        self.assertEqual(ask(*calls, place(0, 0, 0), place(1, 0, 0))[-2:],
                         [[2, 0, 1, 4, 5, 0, 2, 1, 5], [2, 0, 2, 2, 5, 0, 3, 3, 5]])
        self.assertEqual(ask(*calls, place(0, 0, 1), place(1, 0, 1))[-2:], [[1, 0, 1, 1, 1], [1, 0, 2, 1, 1]])
        # 1 0: place 2 makes 1, so place 3 makes 0, and place 1 is left out.
        self.assertEqual(ask(*calls, place(0, 1, 0), place(1, 1, 0))[-2:], [[1, 0, 2, 1, 1], [1, 0, 3, 1, 1]])
        # 0 2: place 3 makes 2; place 1 makes 0 with 1, place 2 with 1/2.
        self.assertEqual(ask(*calls, place(0, 0, 2), place(1, 0, 2))[-2:],
                         [[2, 0, 1, 2, 3, 0, 2, 1, 3], [1, 0, 3, 1, 1]])

    def test_sure_places(self):
        # Every letter is at its place, the fifth is put in behind the last one.
        calls = [start(4)] + [moves(0, i, 1, 0, 0) for i in range(4)] + [moves(1, 4, 1, 1, 0)]
        word = (3, 2, 1, 0, 3)
        for i in range(4):
            self.assertEqual(last_of(*calls, place(i, *word)), [1, 0, i + 1, 1, 1])
        self.assertEqual(last_of(*calls, place(4, *word)), [1, 1, 4, 1, 1])

    def test_all_letters_put_in_behind_the_beginning(self):
        calls = [moves(0, 0, 0, 1, 1), moves(1, 0, 0, 1, 1), moves(2, 1, 1, 0, 0)]
        for i in range(5):
            self.assertEqual(last_of(*calls, place(i, 0, 1, 2, 3, 0)), [1, 1, 0, 1, 1])


class StatesToldTest(unittest.TestCase):

    def test_by_places_and_sort_0_first(self):
        for k in (1, 2, 3, 4):
            makers = makers_of(last_of(start(k), place(0, 0)))
            expected = [(1, 0)]
            for i in range(1, k + 1):
                expected += [(0, i), (1, i)]
            self.assertEqual(list(makers), expected)

    def test_a_place_too_far_for_a_letter_is_not_told(self):
        # Without leaving out, letter 0 is made behind the beginning or at place 1.
        calls = [start(4)]
        for i in range(4):
            for sort in range(3):
                calls.append(moves(sort, i, 1, 1, 0))
        self.assertEqual(list(makers_of(last_of(*calls, place(0, 0, 0, 0, 0, 0)))), [(1, 0), (0, 1)])
        # Five letters on four places: one is put in, so the last is made at place 4 or put in behind it.
        self.assertEqual(list(makers_of(last_of(*calls, place(4, 0, 0, 0, 0, 0)))), [(0, 4), (1, 4)])
        self.assertEqual(list(makers_of(last_of(*calls, place(1, 0, 0, 0, 0, 0)))), [(0, 1), (1, 1), (0, 2)])

    def test_weights_of_0(self):
        # Reached, but with no weight for the letter; with a weight for it, but not reached; from where no way goes on.
        self.assertEqual(list(makers_of(last_of(letters(0, 0, 1, 1, 1), place(0, 0)))), [(0, 1)])
        self.assertEqual(list(makers_of(last_of(moves(0, 0, 1, 0, 1), place(0, 0)))), [(0, 1), (1, 1)])
        self.assertEqual(list(makers_of(last_of(moves(1, 0, 1, 1, 0), place(0, 0)))), [(0, 1), (1, 1)])
        self.assertEqual(list(makers_of(last_of(letters(1, 0, 1, 1, 1), place(0, 0)))), [(1, 0), (1, 1)])

    def test_behind_other_calls(self):
        calls = [start(2), moves(0, 0, 1, 0, 0), moves(0, 1, 1, 0, 0), place(0, 3, 3), place(1, 3, 3)]
        self.assertEqual(ask(*calls, start(1), place(0, 3))[3:],
                         [[1, 0, 1, 1, 1], [1, 0, 2, 1, 1], [1], [3, 1, 0, 2, 11, 0, 1, 6, 11, 1, 1, 3, 11]])

    def test_nothing_is_changed_by_asking(self):
        self.assertEqual(ask(place(1, 0, 1), total(0), place(1, 0, 1))[1:], ask(total(0), place(1, 0, 1)))


class AgainstTheListingTest(unittest.TestCase):

    def test_every_letter_of_drawn_words(self):
        draw = random.Random(11)
        told = 0
        for weights in ((0, 1, 1, 1), (0, 1, 99), tuple(range(100))) * 12:
            calls = drawn_setting(draw, draw.randint(1, 4), weights)
            asked = []
            for n in (1, 2, 3, 4, 5):
                word = [draw.randrange(4) for letter in range(n)]
                asked.extend([place(i, *word) for i in range(n)])
            calls.extend(asked)
            listing = Listing()
            expected = [listing.answer(call) for call in calls]
            given = ask(*calls)
            self.assertEqual(given, expected, calls)
            for answer in given[-len(asked):]:
                if answer != [-6]:
                    told += 1
                    makers = makers_of(answer)
                    self.assertEqual(answer[0], len(makers))
                    self.assertEqual(sum(makers.values()), 1)
                    self.assertTrue(all(chance > 0 for chance in makers.values()))
        self.assertGreater(told, 300)


if __name__ == "__main__":
    unittest.main()
