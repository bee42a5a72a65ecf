"""The interface: many calls in one list, and what is and isn't done with what is handed in."""

import contextlib
import io
import random
import sys
import unittest

from familychain.chains import answers
from tests.helper import LARGEST, Listing, ask, best, count, letters, moves, start, taken_apart, total


def drawn_number(draw, most):
    return draw.choice((LARGEST, 100, 99, 6)) if draw.randrange(12) == 0 else draw.randint(0, most)


def drawn_row(draw, size, longest, most):
    if draw.randrange(8) == 0:
        size = draw.randint(0, longest)
    return [drawn_number(draw, most) for at in range(size)]


def drawn_call(draw):
    number = draw.choice((0, 1, 1, 2, 2, 2, 3, 4, 5))
    if number == 0:
        return start(drawn_number(draw, 5))
    if number == 1:
        return letters(drawn_number(draw, 4), *drawn_row(draw, 4, 10, 3))
    if number == 2:
        return moves(drawn_number(draw, 2), drawn_number(draw, 4), *[drawn_number(draw, 3) for move in range(3)])
    word = drawn_row(draw, draw.randint(0, 5), 12, 3)
    return {3: total, 4: best, 5: count}[number](*word)


class CallsTest(unittest.TestCase):

    def test_each_answer_has_its_count_ahead_of_it(self):
        self.assertEqual(answers([0, 2, 0, 0, 0, 1]), [1, 2, 1, -1, 1, 1])
        self.assertEqual(answers([1, 0, 4, 1, 2, 3, 4, 1, 1, 0]), [1, 0, 1, -1])
        self.assertEqual(answers([2, 0, 0, 1, 0, 0, 2, 0, 0, 0, 1, 0]), [1, 0, 1, -1])
        self.assertEqual(answers([3, 0, 3, 1, 0]), [2, 1, 6, 2, 11, 144])
        self.assertEqual(answers([4, 0, 4, 1, 0, 4, 1, 4]), [7, 1, 1, 6, 1, 1, 2, 1, 7, 1, 1, 24, 1, 1, 0, 1, 1, -1])
        self.assertEqual(answers([5, 0, 5, 1, 0, 5, 6, 0, 0, 0, 0, 0, 0]), [1, 1, 1, 3, 1, -1])
        self.assertEqual(answers([2, 0, 0, 1, 0, 0, 3, 0, 4, 0, 5, 0]), [1, 0, 2, 0, 1, 1, 0, 1, 0])

    def test_refused_rows_are_passed_over_whole(self):
        for size in range(11):
            given = ask(letters(7, *[3] * size), start(3))
            self.assertEqual(given, [[-1], [3]])
        for size in range(6, 13):
            for call in (total, best, count):
                self.assertEqual(ask(call(*[3] * size), start(2)), [[-1], [2]])

    def test_forty_calls(self):
        self.assertEqual(answers([0, 1, 0, 9] * 20), [1, 1, 1, -1] * 20)
        self.assertEqual(answers([3, 0] * 40), [2, 1, 6] * 40)
        self.assertEqual(len(ask(*[best(0, 1, 2, 3, 0)] * 40)), 40)
        self.assertEqual(answers([5] + [12] + [LARGEST] * 12), [1, -1])

    def test_any_calls_in_any_order(self):
        draw = random.Random(4)
        refused = 0
        for line in range(150):
            calls = [drawn_call(draw) for call in range(draw.randint(1, 40))]
            listing = Listing()
            expected = [listing.answer(call) for call in calls]
            self.assertEqual(ask(*calls), expected, calls)
            refused += expected.count([-1])
        self.assertGreater(refused, 500)

    def test_what_is_handed_in_stays_as_it_was(self):
        draw = random.Random(5)
        for line in range(20):
            calls = [number for call in range(40) for number in drawn_call(draw)]
            kept = list(calls)
            answers(calls)
            self.assertEqual(calls, kept)

    def test_what_is_handed_in_is_never_written_to(self):
        class Watched(list):
            def refuse(self, *given):
                raise AssertionError("the list that was handed in is written to")

            append = extend = insert = pop = remove = clear = sort = reverse = refuse
            __setitem__ = __delitem__ = __iadd__ = __imul__ = refuse

        calls = start(2) + letters(1, 1, 2, 3, 4) + moves(0, 0, 1, 2, 3) + total(0) + best(1, 2) + count() + start(9)
        self.assertEqual(answers(Watched(calls)), answers(calls))

    def test_what_is_given_back_is_a_new_list(self):
        calls = start(1) + total()
        first = answers(calls)
        first.clear()
        self.assertEqual(answers(calls), [1, 1, 2, 1, 6])

    def test_the_same_list_twice_gives_the_same(self):
        draw = random.Random(6)
        lines = [[number for call in range(20) for number in drawn_call(draw)] for line in range(20)]
        once = [answers(line) for line in lines]
        self.assertEqual([answers(line) for line in reversed(lines)], once[::-1])

    def test_nothing_is_kept_for_the_next_list(self):
        probes = total() + best(0) + count(1, 2) + letters(2, 1, 1, 1, 1)
        fresh = answers(probes)
        answers(start(3) + letters(0, 1, 0, 0, 0) + letters(1, 0, 0, 5, 0) + moves(0, 0, 1, 0, 0) + moves(1, 0, 9, 9, 1))
        answers(letters(0, 1, 0, 0, 0) + letters(1, 0, 0, 5, 0) + moves(0, 0, 1, 0, 0) + moves(0, 1, 9, 9, 0))
        self.assertEqual(answers(probes), fresh)
        self.assertEqual(taken_apart(fresh)[-1], [-1])

    def test_a_list_of_whole_numbers_is_given_back(self):
        given = answers(start(4) + letters(0, 1, 2, 3, 4) + moves(0, 0, 1, 2, 3) + total(0, 1) + best(2) + count() + [0, 0])
        self.assertIs(type(given), list)
        self.assertEqual({type(number) for number in given}, {int})

    def test_nothing_is_printed_or_imported(self):
        calls = start(4) + total(0, 1, 2, 3, 0) + best(0, 1) + count(9)
        loaded = set(sys.modules)
        with contextlib.redirect_stdout(io.StringIO()) as out, contextlib.redirect_stderr(io.StringIO()) as err:
            answers(calls)
        self.assertEqual((out.getvalue(), err.getvalue()), ("", ""))
        self.assertEqual(set(sys.modules), loaded)


if __name__ == "__main__":
    unittest.main()
