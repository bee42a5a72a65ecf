"""The interface: many calls in one list, and what is and isn't done with what is handed in."""

import contextlib
import io
import random
import sys
import unittest

from familychain.chains import answers
from tests.helper import (LARGEST, Listing, ask, best, count, flat, learn, lengths, letters, moves, place, shows, start,
                          take, taken_apart, total)

# Each of the eleven calls at least once.
EVERY_CALL = (start(2), letters(1, 1, 2, 3, 4), moves(0, 0, 1, 2, 3), total(0), best(1, 2), count(), place(1, 0, 3),
              lengths(3), learn(2, 2), shows(), take(), shows(), start(9))


def drawn_number(draw, most):
    return draw.choice((LARGEST, 100, 99, 6)) if draw.randrange(12) == 0 else draw.randint(0, most)


def drawn_row(draw, size, longest, most):
    if draw.randrange(8) == 0:
        size = draw.randint(0, longest)
    return [drawn_number(draw, most) for at in range(size)]


def drawn_call(draw):
    number = draw.choice((0, 1, 1, 2, 2, 2, 3, 4, 5, 6, 7, 8, 8, 8, 8, 9, 10))
    if number == 0:
        return start(drawn_number(draw, 5))
    if number == 1:
        return letters(drawn_number(draw, 4), *drawn_row(draw, 4, 10, 3))
    if number == 2:
        return moves(drawn_number(draw, 2), drawn_number(draw, 4), *[drawn_number(draw, 3) for move in range(3)])
    if number == 7:
        return lengths(drawn_number(draw, 9))
    if number in (9, 10):
        return take() if number == 9 else shows()
    word = drawn_row(draw, draw.randint(0, 5), 12, 3)
    if number == 6:
        return place(drawn_number(draw, max(len(word) - 1, 0)), *word)
    return {3: total, 4: best, 5: count, 8: learn}[number](*word)


class CallsTest(unittest.TestCase):

    def test_each_answer_has_its_count_ahead_of_it(self):
        self.assertEqual(answers([0, 2, 0, 0, 0, 1]), [1, 2, 1, -1, 1, 1])
        self.assertEqual(answers([1, 0, 4, 1, 2, 3, 4, 1, 1, 0]), [1, 0, 1, -1])
        self.assertEqual(answers([2, 0, 0, 1, 0, 0, 2, 0, 0, 0, 1, 0]), [1, 0, 1, -1])
        self.assertEqual(answers([3, 0, 3, 1, 0]), [2, 1, 6, 2, 11, 144])
        self.assertEqual(answers([4, 0, 4, 1, 0, 4, 1, 4]), [7, 1, 1, 6, 1, 1, 2, 1, 7, 1, 1, 24, 1, 1, 0, 1, 1, -1])
        self.assertEqual(answers([5, 0, 5, 1, 0, 5, 6, 0, 0, 0, 0, 0, 0]), [1, 1, 1, 3, 1, -1])
        self.assertEqual(answers([2, 0, 0, 1, 0, 0, 3, 0, 4, 0, 5, 0]), [1, 0, 2, 0, 1, 1, 0, 1, 0])

    def test_each_answer_of_the_later_calls_has_its_count_ahead_of_it(self):
        self.assertEqual(answers([6, 0, 1, 2, 6, 1, 1, 2, 6, 0, 0]),
                         [13, 3, 1, 0, 2, 11, 0, 1, 6, 11, 1, 1, 3, 11, 1, -1, 1, -1])
        self.assertEqual(answers([7, 0, 7, 9, 7, 1]), [2, 1, 6, 1, -1, 2, 11, 36])
        self.assertEqual(answers([8, 0, 8, 1, 0, 8, 1, 4, 9, 9]), [3, 1, 2, 1, 3, 1, 0, 1, 1, -1, 1, 4, 1, 0])
        self.assertEqual(answers([10, 0, 2, 10]),
                         [24, 1, *[1] * 8, *[1] * 6, *[1, 1, 0] * 3, 1, 2, 37, 2, *[1] * 12, *[1] * 15, *[1, 1, 0] * 3])
        self.assertEqual(answers([2, 0, 0, 1, 0, 0, 6, 0, 2, 0, 0, 8, 0]),
                         [1, 0, 5, 1, 0, 1, 1, 1, 1, -6])

    def test_refused_rows_are_passed_over_whole(self):
        for size in range(11):
            given = ask(letters(7, *[3] * size), start(3))
            self.assertEqual(given, [[-1], [3]])
        for size in range(6, 13):
            for call in (total, best, count, learn):
                self.assertEqual(ask(call(*[3] * size), start(2)), [[-1], [2]])
            self.assertEqual(ask(place(0, *[3] * size), start(2)), [[-1], [2]])

    def test_forty_calls(self):
        self.assertEqual(answers([0, 1, 0, 9] * 20), [1, 1, 1, -1] * 20)
        self.assertEqual(answers([3, 0] * 40), [2, 1, 6] * 40)
        self.assertEqual(len(ask(*[best(0, 1, 2, 3, 0)] * 40)), 40)
        self.assertEqual(answers([5] + [12] + [LARGEST] * 12), [1, -1])
        self.assertEqual(answers([9] * 40), [1, 0] * 40)
        self.assertEqual(ask(*[shows()] * 40), ask(shows()) * 40)
        self.assertEqual(ask(start(1), *[learn()] * 38, take()), [[1]] + [[1, 2, 1]] * 38 + [[76]])

    def test_all_eleven_calls_in_one_list(self):
        self.assertEqual({call[0] for call in EVERY_CALL}, set(range(11)))
        for number in range(11):
            # Every call ahead of every other one, and 40 calls in all.
            turned = [*EVERY_CALL[number:], *EVERY_CALL[:number]]
            calls = (turned * 4)[:40]
            listing = Listing()
            self.assertEqual(ask(*calls), [listing.answer(call) for call in calls])

    def test_any_calls_in_any_order(self):
        draw = random.Random(4)
        refused = {-1: 0, -6: 0}
        for line in range(150):
            calls = [drawn_call(draw) for call in range(draw.randint(1, 40))]
            listing = Listing()
            expected = [listing.answer(call) for call in calls]
            self.assertEqual(ask(*calls), expected, calls)
            for refusal in refused:
                refused[refusal] += expected.count([refusal])
        self.assertGreater(refused[-1], 500)
        self.assertGreater(refused[-6], 0)

    def test_much_learning(self):
        draw = random.Random(7)
        too_many = 0
        for line in range(60):
            calls = [start(draw.randint(1, 4))]
            while len(calls) < 40:
                word = [draw.randrange(4) for letter in range(draw.randint(0, 5))]
                calls.append(learn(*word))
                if draw.randrange(15) == 0:
                    calls.append(draw.choice((take(), start(2), letters(0, 9, 1, 0, 3), moves(0, 0, 2, 1, 1), shows())))
            calls = [*calls[:38], take(), shows()]
            listing = Listing()
            expected = [listing.answer(call) for call in calls]
            self.assertEqual(ask(*calls), expected, calls)
            too_many += expected.count([-5])
        self.assertGreater(too_many, 100)

    def test_what_is_handed_in_stays_as_it_was(self):
        draw = random.Random(5)
        for line in range(20):
            calls = [number for call in range(40) for number in drawn_call(draw)]
            kept = list(calls)
            answers(calls)
            self.assertEqual(calls, kept)

    def test_what_is_handed_in_is_never_written_to(self):
        class Watched(list):
            def refuse(self, *given):
                raise AssertionError("the list that was handed in is written to")

            append = extend = insert = pop = remove = clear = sort = reverse = refuse
            __setitem__ = __delitem__ = __iadd__ = __imul__ = refuse

        calls = flat(EVERY_CALL * 3)
        self.assertEqual(answers(Watched(calls)), answers(calls))

    def test_what_is_given_back_is_a_new_list(self):
        calls = start(1) + total()
        first = answers(calls)
        first.clear()
        self.assertEqual(answers(calls), [1, 1, 2, 1, 6])

    def test_the_same_list_twice_gives_the_same(self):
        draw = random.Random(6)
        lines = [[number for call in range(20) for number in drawn_call(draw)] for line in range(20)]
        once = [answers(line) for line in lines]
        self.assertEqual([answers(line) for line in reversed(lines)], once[::-1])

    def test_nothing_is_kept_for_the_next_list(self):
        probes = total() + best(0) + count(1, 2) + shows() + take() + shows() + lengths(1) + letters(2, 1, 1, 1, 1)
        fresh = answers(probes)
        answers(start(3) + letters(0, 1, 0, 0, 0) + letters(1, 0, 0, 5, 0) + moves(0, 0, 1, 0, 0) + moves(1, 0, 9, 9, 1)
                + learn(2))
        answers(letters(0, 1, 0, 0, 0) + letters(1, 0, 0, 5, 0) + moves(0, 0, 1, 0, 0) + moves(0, 1, 9, 9, 0))
        answers(learn(0) + learn(3, 3) + take() + learn(1))
        self.assertEqual(answers(probes), fresh)
        self.assertEqual(taken_apart(fresh)[-1], [-1])

    def test_a_list_of_whole_numbers_is_given_back(self):
        given = answers(flat(EVERY_CALL) + [0, 0])
        self.assertIs(type(given), list)
        self.assertEqual({type(number) for number in given}, {int})

    def test_nothing_is_printed_or_imported(self):
        calls = flat(EVERY_CALL)
        loaded = set(sys.modules)
        with contextlib.redirect_stdout(io.StringIO()) as out, contextlib.redirect_stderr(io.StringIO()) as err:
            answers(calls)
        self.assertEqual((out.getvalue(), err.getvalue()), ("", ""))
        self.assertEqual(set(sys.modules), loaded)


if __name__ == "__main__":
    unittest.main()
