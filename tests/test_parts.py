"""Tests of stretchtree.parts: points [1], [3], [4] and [5]."""

import itertools
import unittest

from stretchtree.parts import joined, part_of

HUGE = 10 ** 120 - 1  # the greatest number of a hundred and twenty figures
BEYOND = 10 ** 140 - 1


def running_sums(numbers):
    return [sum(numbers[:size]) for size in range(1, len(numbers) + 1)]


def told_part(numbers):
    """The part as points [3] and [4] tell it, from the numbers themselves."""
    return (sum(numbers), min(numbers), max(numbers), max(running_sums(numbers)))


def mixed_row(length, seed=0):
    """A row of both signs, the same on every run."""
    return [(place * place * 37 + place * 11 + seed * 29) % 83 - 41 for place in range(length)]


def small_rows(longest, values):
    for length in range(1, longest + 1):
        for numbers in itertools.product(values, repeat=length):
            yield list(numbers)


class PartCase(unittest.TestCase):
    def assert_part(self, part, told):
        self.assertEqual(part, told)
        self.assertIs(type(part), tuple)
        self.assertEqual([type(number) for number in part], [int] * 4)


class PartOfTest(PartCase):
    def test_examples_of_point_4(self):
        self.assert_part(part_of([2, -5, 4]), (1, -5, 4, 2))
        self.assert_part(part_of([-3]), (-3, -3, -3, -3))

    def test_one_number_alone(self):
        for number in (0, 1, -1, 7, -7, HUGE, -HUGE):
            with self.subTest(number=number):
                self.assert_part(part_of([number]), (number, number, number, number))

    def test_all_below_nought(self):
        self.assert_part(part_of([-4, -2, -9]), (-15, -9, -2, -4))
        self.assert_part(part_of([-9, -2, -4]), (-15, -9, -2, -9))

    def test_all_above_nought(self):
        self.assert_part(part_of([4, 2, 9]), (15, 2, 9, 15))

    def test_all_nought(self):
        self.assert_part(part_of([0, 0, 0]), (0, 0, 0, 0))

    def test_equal_numbers(self):
        self.assert_part(part_of([5, 5, 5, 5]), (20, 5, 5, 20))
        self.assert_part(part_of([-5, -5, -5]), (-15, -5, -5, -5))

    def test_greatest_running_sum_at_the_first_place(self):
        self.assert_part(part_of([10, -4, 3, -1]), (8, -4, 10, 10))

    def test_greatest_running_sum_in_the_middle(self):
        self.assert_part(part_of([1, 6, -9, 2]), (0, -9, 6, 7))
        self.assert_part(part_of([-5, 3, 1, -2]), (-3, -5, 3, -1))

    def test_greatest_running_sum_at_the_last_place(self):
        self.assert_part(part_of([-2, 5, -1, 8]), (10, -2, 8, 10))
        self.assert_part(part_of([-8, 1, 2]), (-5, -8, 2, -5))

    def test_greatest_running_sum_twice(self):
        self.assert_part(part_of([4, -3, 3, -1]), (3, -3, 4, 4))

    def test_running_sums_begin_at_the_first_number(self):
        # The best stretch further on is 9, but no running sum leaves out the -7.
        self.assert_part(part_of([-7, 9, -1]), (1, -7, 9, 2))

    def test_an_empty_beginning_is_no_running_sum(self):
        self.assert_part(part_of([-1, -1]), (-2, -1, -1, -1))

    def test_least_and_greatest_at_every_place(self):
        for place in range(6):
            with self.subTest(place=place):
                numbers = [1] * 6
                numbers[place] = -50
                self.assertEqual(part_of(numbers)[1:3], (-50, 1))
                numbers[place] = 50
                self.assertEqual(part_of(numbers)[1:3], (1, 50))

    def test_numbers_of_a_hundred_and_twenty_figures(self):
        self.assert_part(part_of([HUGE, HUGE]), (2 * HUGE, HUGE, HUGE, 2 * HUGE))
        self.assert_part(part_of([-HUGE, -HUGE]), (-2 * HUGE, -HUGE, -HUGE, -HUGE))
        self.assert_part(part_of([HUGE, -HUGE, 1]), (1, -HUGE, HUGE, HUGE))
        self.assert_part(part_of([-HUGE, HUGE, 1]), (1, -HUGE, HUGE, 1))
        # Neighbours differ in the last figure alone.
        self.assert_part(part_of([HUGE - 1, HUGE]), (2 * HUGE - 1, HUGE - 1, HUGE, 2 * HUGE - 1))

    def test_five_hundred_numbers(self):
        self.assert_part(part_of(list(range(500))), (124750, 0, 499, 124750))
        self.assert_part(part_of([-number for number in range(500)]), (-124750, -499, 0, 0))
        self.assert_part(part_of([HUGE] * 500), (500 * HUGE, HUGE, HUGE, 500 * HUGE))
        numbers = mixed_row(500)
        self.assert_part(part_of(numbers), told_part(numbers))

    def test_somewhat_beyond_the_bounds_is_not_refused(self):
        self.assert_part(part_of([BEYOND, -BEYOND]), (0, -BEYOND, BEYOND, BEYOND))
        self.assert_part(part_of([1] * 700), (700, 1, 1, 700))

    def test_every_small_row(self):
        for numbers in small_rows(5, (-2, -1, 0, 1, 3)):
            self.assert_part(part_of(numbers), told_part(numbers))

    def test_rows_of_many_lengths(self):
        for length in range(1, 80):
            numbers = mixed_row(length, length)
            with self.subTest(length=length):
                self.assert_part(part_of(numbers), told_part(numbers))

    def test_the_list_handed_in_is_not_changed(self):
        for numbers in ([4], [2, -5, 4], [HUGE, -HUGE, 1], mixed_row(500)):
            ahead = list(numbers)
            part_of(numbers)
            self.assertEqual(numbers, ahead)


class JoinedTest(PartCase):
    def assert_joins_at_every_cut(self, numbers):
        whole = part_of(numbers)
        self.assert_part(whole, told_part(numbers))
        for cut in range(1, len(numbers)):
            self.assert_part(joined(part_of(numbers[:cut]), part_of(numbers[cut:])), whole)

    def test_from_parts_alone(self):
        self.assert_part(joined((1, -5, 4, 2), (-3, -3, -3, -3)), (-2, -5, 4, 2))
        self.assert_part(joined((-3, -3, -3, -3), (1, -5, 4, 2)), (-2, -5, 4, -1))

    def test_greatest_running_sum_in_the_left_piece(self):
        # [6, 1, -9] with [5, -2] behind: 7 stands against -2 + 5.
        self.assert_part(joined((-2, -9, 6, 7), (3, -2, 5, 5)), (1, -9, 6, 7))
        self.assert_part(joined(part_of([6, 1, -9]), part_of([5, -2])), (1, -9, 6, 7))

    def test_greatest_running_sum_in_the_right_piece(self):
        # [6, 1, -9] with [5, 8, -2] behind: 7 stands against -2 + 13.
        self.assert_part(joined((-2, -9, 6, 7), (11, -2, 8, 13)), (9, -9, 8, 11))
        self.assert_part(joined(part_of([6, 1, -9]), part_of([5, 8, -2])), (9, -9, 8, 11))

    def test_greatest_running_sum_in_both_pieces(self):
        self.assert_part(joined(part_of([7, -3]), part_of([3, -1])), (6, -3, 7, 7))

    def test_least_and_greatest_from_either_piece(self):
        self.assert_part(joined(part_of([-8, 9]), part_of([1, 2])), (4, -8, 9, 4))
        self.assert_part(joined(part_of([1, 2]), part_of([-8, 9])), (4, -8, 9, 4))
        self.assert_part(joined(part_of([-8, 1]), part_of([2, 9])), (4, -8, 9, 4))
        self.assert_part(joined(part_of([2, 9]), part_of([-8, 1])), (4, -8, 9, 11))

    def test_the_order_of_the_pieces_counts(self):
        self.assert_part(joined(part_of([5]), part_of([-2])), (3, -2, 5, 5))
        self.assert_part(joined(part_of([-2]), part_of([5])), (3, -2, 5, 3))

    def test_every_small_row_at_every_cut(self):
        for numbers in small_rows(5, (-3, -1, 0, 2)):
            self.assert_joins_at_every_cut(numbers)

    def test_rows_of_many_lengths_at_every_cut(self):
        for length in list(range(1, 50)) + [64, 65, 99, 100]:
            with self.subTest(length=length):
                self.assert_joins_at_every_cut(mixed_row(length, length))

    def test_five_hundred_numbers_at_every_cut(self):
        self.assert_joins_at_every_cut(mixed_row(500))

    def test_peak_at_every_place_at_every_cut(self):
        # Rising up to one place and falling behind it: the reach is told by that place.
        for peak in range(12):
            numbers = [3] * (peak + 1) + [-2] * (11 - peak)
            with self.subTest(peak=peak):
                self.assertEqual(part_of(numbers)[3], 3 * (peak + 1))
                self.assert_joins_at_every_cut(numbers)

    def test_all_below_nought_at_every_cut(self):
        self.assert_joins_at_every_cut([-3, -1, -4, -1, -5, -9, -2])

    def test_all_above_nought_at_every_cut(self):
        self.assert_joins_at_every_cut([3, 1, 4, 1, 5, 9, 2])

    def test_numbers_of_a_hundred_and_twenty_figures_at_every_cut(self):
        self.assert_joins_at_every_cut([HUGE, -HUGE, 1, HUGE - 1, -HUGE, HUGE, -1])
        self.assert_joins_at_every_cut([-HUGE, HUGE, 1, -HUGE, HUGE - 1])

    def test_parts_handed_in_can_be_used_again(self):
        one = part_of([6, 1, -9])
        other = part_of([5, 8, -2])
        joined(one, other)
        self.assertEqual(one, (-2, -9, 6, 7))
        self.assertEqual(other, (11, -2, 8, 13))
        self.assert_part(joined(one, other), (9, -9, 8, 11))


if __name__ == "__main__":
    unittest.main()
