"""Tests of stretchtree.shape: points [2] and [6]."""

import unittest

from stretchtree.shape import stretches


class StretchesTest(unittest.TestCase):
    def assert_tree(self, told, count):
        """Holds what is told against the words of point [6], one by one."""
        self.assertIs(type(told), list)
        self.assertEqual(told[0], (0, count))
        self.assertEqual(self.index_behind(told, 0), len(told))

    def index_behind(self, told, index):
        """The index behind the stretch at the index and all its halves, which are held on the way."""
        start, stop = told[index]
        if stop - start == 1:
            return index + 1
        left_start, middle = told[index + 1]
        self.assertEqual(left_start, start)
        self.assertIn((middle - start) - (stop - middle), (0, 1))
        right_index = self.index_behind(told, index + 1)
        self.assertEqual(told[right_index], (middle, stop))
        return self.index_behind(told, right_index)

    def test_example_of_point_6(self):
        self.assertEqual(stretches(3), [(0, 3), (0, 2), (0, 1), (1, 2), (2, 3)])

    def test_one_place(self):
        self.assertEqual(stretches(1), [(0, 1)])

    def test_two_places(self):
        self.assertEqual(stretches(2), [(0, 2), (0, 1), (1, 2)])

    def test_four_places(self):
        self.assertEqual(stretches(4), [(0, 4), (0, 2), (0, 1), (1, 2), (2, 4), (2, 3), (3, 4)])

    def test_odd_halves_on_the_left_and_on_the_right(self):
        self.assertEqual(
            stretches(6),
            [
                (0, 6),
                (0, 3), (0, 2), (0, 1), (1, 2), (2, 3),
                (3, 6), (3, 5), (3, 4), (4, 5), (5, 6),
            ],
        )

    def test_seven_places(self):
        self.assertEqual(
            stretches(7),
            [
                (0, 7),
                (0, 4), (0, 2), (0, 1), (1, 2), (2, 4), (2, 3), (3, 4),
                (4, 7), (4, 6), (4, 5), (5, 6), (6, 7),
            ],
        )

    def test_every_count_up_to_five_hundred(self):
        for count in range(1, 501):
            with self.subTest(count=count):
                self.assert_tree(stretches(count), count)

    def test_powers_of_two_and_their_neighbours(self):
        for power in (4, 8, 16, 32, 64, 128, 256, 512):
            for count in (power - 1, power, power + 1):
                with self.subTest(count=count):
                    self.assert_tree(stretches(count), count)

    def test_somewhat_beyond_five_hundred_is_not_refused(self):
        for count in (501, 600, 777, 1000):
            with self.subTest(count=count):
                self.assert_tree(stretches(count), count)

    def test_each_is_a_tuple_of_two_whole_numbers(self):
        for count in (1, 2, 3, 10, 255, 256, 257, 500):
            for stretch in stretches(count):
                self.assertIs(type(stretch), tuple)
                self.assertEqual([type(place) for place in stretch], [int, int])

    def test_each_is_a_stretch_of_the_row(self):
        for count in (1, 2, 3, 10, 255, 256, 257, 500):
            for start, stop in stretches(count):
                self.assertTrue(0 <= start < stop <= count)

    def test_none_stands_twice_and_each_place_has_its_own(self):
        for count in (1, 2, 3, 10, 255, 256, 257, 500):
            told = stretches(count)
            self.assertEqual(len(set(told)), len(told))
            single = [stretch for stretch in told if stretch[1] - stretch[0] == 1]
            self.assertEqual(single, [(place, place + 1) for place in range(count)])

    def test_a_list_given_back_is_the_callers_own(self):
        told = stretches(3)
        told.clear()
        self.assertEqual(stretches(3), [(0, 3), (0, 2), (0, 1), (1, 2), (2, 3)])


if __name__ == "__main__":
    unittest.main()
