"""start, letters and moves: what they answer and what the chain is behind them (points 1 and 2)."""

import unittest

from tests.helper import Listing, ask, best, count, last_of, letters, moves, start, total


class StartTest(unittest.TestCase):

    def test_answers_k(self):
        for k in (1, 2, 3, 4):
            self.assertEqual(ask(start(k)), [[k]])

    def test_a_new_list_has_one_place_and_weights_of_one(self):
        # Leaving out place 1 (1/3), then on to the end (1/2, as leaving out has no weight at the last place).
        self.assertEqual(last_of(total()), [1, 6])
        self.assertEqual(ask(total(), best(0), count(2, 3)), ask(start(1), total(), best(0), count(2, 3))[1:])

    def test_weights_at_the_beginning(self):
        # The empty word leaves out every place; each of these moves has 1/3, the last one, to the end, 1/2.
        for k in (1, 2, 3, 4):
            self.assertEqual(last_of(start(k), total()), [1, 2 * 3 ** k])

    def test_every_weight_is_one_again(self):
        change = [start(3)]
        for i in range(4):
            change.append(letters(i, 1, 2, 3, 4))
            for sort in range(3):
                if (sort, i) != (2, 0):
                    change.append(moves(sort, i, 5, 6, 0 if i == 3 else 7))
        probes = [total(), total(0), total(3, 1), best(2, 2, 1), total(0, 1, 2, 3)]
        for k in (1, 2, 3, 4):
            fresh = ask(start(k), *probes)[1:]
            self.assertEqual(ask(*change, start(k), *probes)[-len(probes):], fresh)
            self.assertNotEqual(ask(*change, *probes)[-len(probes):], fresh)

    def test_places_behind_k_are_gone_and_new_ones_are_there(self):
        self.assertEqual(ask(start(4), letters(4, 1, 1, 1, 1), start(2), letters(3, 1, 1, 1, 1), letters(2, 1, 1, 1, 1),
                             start(3), letters(3, 1, 1, 1, 1)),
                         [[4], [0], [2], [-1], [0], [3], [0]])


class LettersTest(unittest.TestCase):

    def test_weights_of_a_place(self):
        # Nothing put in, place 1 not left out: the one way makes its letter at place 1.
        bare = [moves(0, 0, 1, 0, 0), moves(0, 1, 1, 0, 0), letters(1, 1, 2, 3, 4)]
        self.assertEqual(ask(*bare, total(0), total(1), total(2), total(3))[2:],
                         [[0], [1, 10], [1, 5], [3, 10], [2, 5]])

    def test_weights_of_putting_in_are_the_same_behind_every_place(self):
        # The letter is put in behind place i, every place being left out.
        for i in (0, 1, 2):
            calls = [start(2), letters(0, 1, 2, 3, 4), moves(0, 0, 0, 0, 1), moves(2, 1, 0, 0, 1), moves(2, 2, 1, 0, 0)]
            sort = 0 if i == 0 else 2
            calls.append(moves(sort, i, 1 if i == 2 else 0, 1, 0 if i == 2 else 1))
            calls.append(moves(1, i, 1 if i == 2 else 0, 0, 0 if i == 2 else 1))
            self.assertEqual(ask(*calls, total(0), total(1), total(2), total(3))[-4:],
                             [[1, 20], [1, 10], [3, 20], [1, 5]])

    def test_a_place_has_its_own_weights(self):
        listing = Listing(4)
        calls = [start(4)]
        for i in range(5):
            weights = [i + 1, 2 * i + 1, 7, 11 * i]
            listing.letters[i] = weights
            calls.append(letters(i, *weights))
        for word in ((0,), (3, 2), (1, 0, 3), (3, 3, 3, 3), (0, 1, 2, 3, 0)):
            self.assertEqual(last_of(*calls, total(*word)), listing.total(word))

    def test_the_latest_weights_hold(self):
        self.assertEqual(ask(letters(1, 1, 0, 0, 0), letters(0, 1, 0, 0, 0), count(1), letters(1, 0, 1, 0, 0), count(1)),
                         [[0], [0], [0], [0], [1]])

    def test_weights_of_0_and_of_99(self):
        bare = [moves(0, 0, 1, 0, 0), moves(0, 1, 1, 0, 0)]
        self.assertEqual(ask(*bare, letters(1, 0, 0, 0, 1), total(3), total(0))[2:], [[0], [1, 1], [0, 1]])
        self.assertEqual(ask(*bare, letters(1, 99, 99, 99, 99), total(2))[2:], [[0], [1, 4]])
        self.assertEqual(ask(*bare, letters(1, 99, 1, 0, 0), total(0), total(1))[2:], [[0], [99, 100], [1, 100]])


class MovesTest(unittest.TestCase):

    def test_weights_of_on_putting_in_and_leaving_out(self):
        set_beginning = moves(0, 0, 2, 3, 5)
        # On to place 1 and on to the end; or put in, leave out, on; or leave out, put in, on.
        self.assertEqual(last_of(set_beginning, best(0)), [1, 1, 32, 1, 2, 2, 1, 1, 1])
        listing = Listing(1)
        listing.moves[(0, 0)] = [2, 3, 5]
        chances = {tuple(states): chance for chance, states in listing.ways([0])}
        self.assertEqual([str(chances[key]) for key in sorted(chances)], ["1/40", "1/80", "1/32"])
        self.assertEqual(last_of(set_beginning, total(0)), [11, 160])

    def test_each_state_has_its_own(self):
        listing = Listing(3)
        calls = [start(3)]
        for rank, (sort, i) in enumerate(sorted(listing.moves)):
            weights = [rank + 1, 2 * rank + 3, 0 if i == 3 else 13 - rank]
            listing.moves[(sort, i)] = weights
            calls.append(moves(sort, i, *weights))
        for word in ((), (0,), (1, 2), (3, 0, 1), (2, 2, 2, 2), (0, 1, 2, 3, 0)):
            self.assertEqual(ask(*calls, total(*word), best(*word), count(*word))[-3:],
                             [listing.total(word), listing.best(word), listing.count(word)])

    def test_every_state_can_be_set(self):
        for k in (1, 2, 3, 4):
            for i in range(k + 1):
                for sort in (0, 1) if i == 0 else (0, 1, 2):
                    self.assertEqual(ask(start(k), moves(sort, i, 1, 0, 0)), [[k], [0]])

    def test_weights_of_0_and_of_99(self):
        self.assertEqual(ask(moves(0, 0, 99, 99, 99), total()), [[0], [1, 6]])
        self.assertEqual(ask(moves(0, 0, 0, 0, 99), total()), [[0], [1, 2]])
        self.assertEqual(ask(moves(0, 0, 99, 0, 0), total(), moves(0, 1, 99, 0, 0), total(1)),
                         [[0], [0, 1], [0], [1, 4]])
        self.assertEqual(ask(moves(0, 0, 0, 99, 1), moves(2, 1, 99, 99, 0), total()), [[0], [0], [1, 200]])

    def test_the_latest_weights_hold(self):
        self.assertEqual(ask(moves(0, 0, 1, 0, 0), count(), moves(0, 0, 0, 0, 1), count()), [[0], [0], [0], [1]])


if __name__ == "__main__":
    unittest.main()
