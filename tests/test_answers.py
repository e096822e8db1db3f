"""The form of calls and answers, and what is kept between them."""

import unittest

import asking
from asking import (GREATEST, add, area, ask, begin, clear, coverage, draw_line, fill, reverse, row,
                    total_coverage)
from partcovers.canvas import UnknownCall, answers

SQUARE = (0, 0, 16, 0, 16, 16, 0, 16)
ALL_CALLS = (begin(2, 2, 7) + add(*SQUARE) + add(1, 2, 3) + coverage(0, 0) + coverage(9, 9) + total_coverage() + fill(9)
             + fill(256) + draw_line(1, 1, 0, 0, 5) + draw_line(1001, 0, 0, 0, 5) + row(1) + row(2) + reverse()
             + area() + clear() + area())


class LockedList(list):
    """A list that can be read only."""

    def refuse(self, *arguments, **named):
        raise AssertionError("the list was to be changed")

    __setitem__ = __delitem__ = __iadd__ = __imul__ = refuse
    append = clear = extend = insert = pop = remove = reverse = sort = refuse


class FormTest(unittest.TestCase):
    def test_each_answer_has_its_length_ahead(self):
        calls = begin(2, 2, 7) + add(*SQUARE) + coverage(0, 0) + coverage(2, 0) + area() + clear()
        self.assertEqual(answers(calls), [1, 0, 1, 1, 3, 0, 1, 1, 1, -1, 3, 0, 1, 1, 1, 0])

    def test_single_calls(self):
        self.assertEqual(answers([1, 1, 1, 0]), [1, 0])
        self.assertEqual(answers([2, 6, 0, 0, 16, 0, 0, 16]), [1, 1])
        self.assertEqual(answers([2, 0]), [1, -1])
        self.assertEqual(answers([3]), [1, 0])
        self.assertEqual(answers([4, 0, 0]), [3, 0, 0, 1])
        self.assertEqual(answers([5]), [3, 0, 0, 1])
        self.assertEqual(answers([6]), [3, 0, 0, 1])
        self.assertEqual(answers([7, 255]), [1, 0])
        self.assertEqual(answers([8, 0, 0, 2, 1, 255]), [2, 3, 1])
        self.assertEqual(answers([9, 0]), [2, 1, 0])
        self.assertEqual(answers([10]), [1, 0])

    def test_all_calls(self):
        self.assertEqual(answers(ALL_CALLS), [
            1, 0, 1, 1, 1, -3, 3, 0, 1, 1, 1, -1, 3, 0, 1, 1, 1, 1, 1, -1, 2, 2, 2, 1, -1, 3, 2, 7, 5, 1, -1, 1, 1,
            3, 0, -1, 1, 1, 0, 3, 0, 0, 1])

    def test_an_error_is_its_code_alone(self):
        calls = begin(0, 1) + add(1) + add() + coverage(1, 0) + add(*([0] * 122)) + fill(256) + row(1)
        self.assertEqual(answers(calls + draw_line(0, 0, 0, 0, 256)),
                         [1, -1, 1, -3, 1, -1, 1, -1, 1, -5, 1, -1, 1, -1, 1, -1])

    def test_numbers_of_a_call_are_not_taken_for_calls(self):
        parts = ask(add(5, 5, 5, 5, 5, 5), coverage(5, 5), begin(3, 3, 3), coverage(2, 2), add(3, 3, 3), area())
        self.assertEqual(parts, [[1], [-1], [0], [0, 0, 1], [-3], [0, 0, 1]])
        self.assertEqual(ask(draw_line(8, 9, 10, 7, 6), fill(8), row(9), fill(7), draw_line(1, 1, 1, 1, 10), row(10)),
                         [[3, 0], [0], [-1], [0], [1, 0], [-1]])

    def test_answers_are_plain_whole_numbers_in_a_list(self):
        told = answers(ALL_CALLS)
        self.assertIs(type(told), list)
        self.assertEqual({type(number) for number in told}, {int})

    def test_sixty_calls(self):
        self.assertEqual(answers([3] * 60), [1, 0] * 60)
        self.assertEqual(answers([10] * 60), [1, 0] * 60)
        self.assertEqual(answers([7, 3] * 60), [1, 0] * 60)

    def test_greatest_numbers_and_longest_list(self):
        big = GREATEST
        calls = [begin(big, big, big), coverage(big, big), add(*([big] * 1024)), add(*([0] * 1024)), add(*([0] * 1023))]
        self.assertEqual(ask(*calls), [[-1], [-1], [-1], [-5], [-3]])
        self.assertEqual(ask(fill(big), draw_line(big, big, big, big, big), row(big)), [[-1], [-1], [-1]])

    def test_numbers_beyond_the_unsigned_bound_of_a_word_are_told(self):
        corners = []
        for k in range(20):
            corners += [k * 3 % 17, 0, 4096, 4095 - 2 * k, 5 * k % 19, 4093 - k]
        answer = asking.last(begin(16, 16), add(*corners), coverage(7, 7))
        self.assertGreater(answer[2], GREATEST)

    def test_another_number_is_no_call(self):
        for number in (0, 11, GREATEST):
            with self.assertRaises(UnknownCall):
                answers([number])


class NothingKeptTest(unittest.TestCase):
    def test_the_list_is_the_same_afterwards(self):
        calls = list(ALL_CALLS)
        before = list(calls)
        answers(calls)
        self.assertEqual(calls, before)

    def test_the_list_is_not_changed_for_a_while_either(self):
        self.assertEqual(answers(LockedList(ALL_CALLS)), answers(ALL_CALLS))

    def test_a_session_starts_with_one_pixel_and_no_contours(self):
        self.assertEqual(ask(coverage(0, 0), coverage(1, 0), coverage(0, 1), area(), row(0), row(1), reverse(),
                             total_coverage(), add(*SQUARE)),
                         [[0, 0, 1], [-1], [-1], [0, 0, 1], [1, 0], [-1], [0], [0, 0, 1], [1]])

    def test_two_sessions_do_not_know_of_one_another(self):
        probe = [coverage(0, 0), coverage(1, 0), coverage(0, 1), area(), row(0), row(1), add(*SQUARE)]
        before = ask(*probe)
        ask(begin(16, 16, 255), add(*SQUARE), add(*([0] * 112)), fill(9), draw_line(0, 0, 9, 9, 1), reverse())
        self.assertEqual(ask(*probe), before)
        ask(draw_line(0, 0, 0, 0, 1), add(*SQUARE))
        self.assertEqual(ask(*probe), before)

    def test_the_same_calls_have_the_same_answers(self):
        calls = list(ALL_CALLS)
        first = answers(calls)
        kept = list(first)
        second = answers(calls)
        self.assertEqual(second, kept)
        second.append(0)
        self.assertEqual(first, kept)


if __name__ == "__main__":
    unittest.main()
