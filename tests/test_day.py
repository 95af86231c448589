"""Tests of stretchtree.day and the tree that it keeps: points [1], [2], [7] and [8], and [3] to [6] behind a day."""

import copy
import itertools
import unittest

from stretchtree.day import answers, row_behind, tree_behind

HUGE = 10 ** 120 - 1  # the greatest number of a hundred and twenty figures
BEYOND = 10 ** 140 - 1
ASKS = {"sum": sum, "least": min, "greatest": max}
MANY_LENGTHS = list(range(1, 19)) + [31, 32, 33]
WHOLE_DAY = 250


# What the document asks, told from a plain list without a tree.

def first_reached(row, start, mark):
    running = 0
    for place in range(start, len(row)):
        running += row[place]
        if running >= mark:
            return place
    return None


def plain_change(row, deed):
    """Does a deed that changes the row, on the row itself, and answers it."""
    kind, one, other = deed
    places = range(len(row))
    if one not in places or (kind == "swap" and other not in places):
        return None
    if kind == "swap":
        row[one], row[other] = row[other], row[one]
        return True
    before = row[one]
    row[one] = other if kind == "set" else before + other
    return before if kind == "set" else row[one]


def plain_ask(row, deed):
    """Answers a deed that changes nothing."""
    kind, start, other = deed
    if kind == "reach":
        return first_reached(row, start, other) if start in range(len(row)) else None
    if start < 0 or start >= other or other > len(row):
        return None
    return ASKS[kind](row[start:other])


def plain_day(row, deeds):
    """The answers of a day, and the row behind it."""
    row = list(row)
    told = []
    for deed in deeds:
        told.append((plain_change if deed[0] in ("set", "add", "swap") else plain_ask)(row, deed))
    return told, row


def plain_stretches(start, stop):
    """The stretches of the tree, a stretch ahead of its halves."""
    if stop - start == 1:
        return [(start, stop)]
    left_places = (stop - start) - (stop - start) // 2
    middle = start + left_places
    return [(start, stop)] + plain_stretches(start, middle) + plain_stretches(middle, stop)


def plain_part(numbers):
    running_sums = list(itertools.accumulate(numbers))
    return (sum(numbers), min(numbers), max(numbers), max(running_sums))


def plain_tree(row):
    """What the tree keeps of a row, told from the numbers themselves."""
    return [(start, stop) + plain_part(row[start:stop]) for start, stop in plain_stretches(0, len(row))]


# Rows and days to try, the same on every run.

def mixed_row(length, seed=0):
    """A row of both signs."""
    return [(place * place * 37 + place * 11 + seed * 29) % 83 - 41 for place in range(length)]


def huge_row(length):
    """A row of numbers of a hundred and twenty figures, of either sign."""
    return [(HUGE - place * 7) * (-1 if place % 3 == 1 else 1) for place in range(length)]


def drawn_numbers(seed):
    """Numbers without an end that look drawn by chance, but are the same on every run."""
    while True:
        seed = (seed * 1103515245 + 12345) % 2 ** 31
        yield seed >> 8


def mixed_day(length, count, seed=0, scale=1):
    """Deeds of all kinds upon a row of the length, some of them at places that are not there."""
    drawn = drawn_numbers(seed + length)
    kinds = ("set", "add", "swap", "sum", "least", "greatest", "reach")
    deeds = []
    for turn in range(count):
        kind = kinds[(turn + next(drawn)) % len(kinds)]
        one = next(drawn) % (length + 2) - (next(drawn) % 8 == 0)
        if kind in ("swap", "sum", "least", "greatest"):
            other = next(drawn) % (length + 2) - (next(drawn) % 8 == 0)
        else:
            other = (next(drawn) % 121 - 60) * scale
        deeds.append((kind, one, other))
    return deeds


def every_stretch(length):
    return [(start, stop) for start in range(length) for stop in range(start + 1, length + 1)]


def asks_of(pairs):
    return [(kind, start, stop) for start, stop in pairs for kind in ASKS]


def reaches_of(row, starts):
    """From each start the marks at, just below and just above each running sum."""
    deeds = []
    for start in starts:
        for running in itertools.accumulate(row[start:]):
            deeds += [("reach", start, mark) for mark in (running - 1, running, running + 1)]
    return deeds


def deeds_without_answer(length):
    """Deeds that tell a place or a stretch that a row of the length does not have."""
    wrong_places = (-1, -2, -length, -length - 1, -HUGE, length, length + 1, 2 * length, 10 * length + 7, HUGE)
    deeds = []
    for place in wrong_places:
        deeds += [("set", place, 77), ("add", place, 77), ("swap", place, place)]
        deeds += [("reach", place, mark) for mark in (-HUGE, -1, 0, 1, HUGE)]
        for there in {0, length // 2, length - 1}:
            deeds += [("swap", place, there), ("swap", there, place)]
    pairs = [(place, place) for place in range(-1, length + 2)]
    pairs += [(stop, start) for start, stop in every_stretch(min(length, 9))]
    pairs += [(start, stop) for start in (-1, -2, -length, -HUGE) for stop in range(-2, length + 2)]
    pairs += [(start, stop) for stop in (length + 1, length + 2, HUGE) for start in range(-1, length + 2)]
    return deeds + asks_of(pairs)


class Counted(int):
    """A whole number that counts how often one of its kind is added, taken away or compared."""

    steps = 0


def counting(work):
    """The same work on whole numbers, counted."""
    def step(self, other):
        Counted.steps += 1
        answer = getattr(int, work)(self, other)
        return answer if isinstance(answer, bool) else Counted(answer)
    return step


for work_name in ("__add__", "__radd__", "__sub__", "__rsub__", "__lt__", "__le__", "__gt__", "__ge__"):
    setattr(Counted, work_name, counting(work_name))


class DayCase(unittest.TestCase):
    def assert_same(self, answer, told):
        """The same, and of the same kinds: True is no 1 here, and a list is no tuple."""
        self.assertEqual(answer, told)
        self.assertIs(type(answer), type(told))
        if isinstance(told, (list, tuple)):
            for one, other in zip(answer, told):
                self.assert_same(one, other)

    def assert_day(self, row, deeds):
        told, row_then = plain_day(row, deeds)
        self.assert_same(answers(row, deeds), told)
        self.assert_same(row_behind(row, deeds), row_then)
        self.assert_same(tree_behind(row, deeds), plain_tree(row_then))


class ChangesTest(DayCase):
    def test_set_answers_the_number_that_was_there(self):
        row = [2, -5, 4]
        self.assert_same(answers(row, [("set", 1, 9)]), [-5])
        self.assert_same(answers(row, [("set", 1, 9), ("set", 1, -8), ("set", 1, 0)]), [-5, 9, -8])
        self.assert_same(row_behind(row, [("set", 1, 9)]), [2, 9, 4])
        self.assert_same(tree_behind(row, [("set", 1, 9)]), [
            (0, 3, 15, 2, 9, 15), (0, 2, 11, 2, 9, 11), (0, 1, 2, 2, 2, 2), (1, 2, 9, 9, 9, 9), (2, 3, 4, 4, 4, 4),
        ])

    def test_set_to_the_same_number(self):
        self.assert_same(answers([2, -5, 4], [("set", 2, 4), ("sum", 0, 3)]), [4, 1])

    def test_add_answers_the_number_that_is_there_then(self):
        row = [2, -5, 4]
        self.assert_same(answers(row, [("add", 1, 9)]), [4])
        self.assert_same(answers(row, [("add", 2, -9), ("add", 2, 5), ("add", 2, 0)]), [-5, 0, 0])
        self.assert_same(row_behind(row, [("add", 1, 9)]), [2, 4, 4])
        self.assert_same(tree_behind(row, [("add", 0, -3)]), [
            (0, 3, -2, -5, 4, -1), (0, 2, -6, -5, -1, -1), (0, 1, -1, -1, -1, -1), (1, 2, -5, -5, -5, -5),
            (2, 3, 4, 4, 4, 4),
        ])

    def test_swap_answers_true(self):
        row = [2, -5, 4]
        self.assert_same(answers(row, [("swap", 0, 2)]), [True])
        self.assert_same(row_behind(row, [("swap", 0, 2)]), [4, -5, 2])
        self.assert_same(row_behind(row, [("swap", 2, 0)]), [4, -5, 2])
        self.assert_same(row_behind(row, [("swap", 0, 2), ("swap", 1, 0)]), [-5, 4, 2])
        self.assert_same(tree_behind(row, [("swap", 0, 1)]), [
            (0, 3, 1, -5, 4, 1), (0, 2, -3, -5, 2, -3), (0, 1, -5, -5, -5, -5), (1, 2, 2, 2, 2, 2),
            (2, 3, 4, 4, 4, 4),
        ])

    def test_swap_of_one_place_with_itself(self):
        for row in ([7], [7, -1], mixed_row(9)):
            for place in range(len(row)):
                self.assert_same(answers(row, [("swap", place, place)]), [True])
                self.assert_day(row, [("swap", place, place)])

    def test_every_change_at_every_place(self):
        for length in MANY_LENGTHS:
            row = mixed_row(length, length)
            with self.subTest(length=length):
                for place in range(length):
                    for value in (0, 100, -100):
                        self.assert_day(row, [("set", place, value), ("set", place, 3)])
                        self.assert_day(row, [("add", place, value), ("add", place, 3)])

    def test_swap_of_every_two_places(self):
        for length in range(1, 18):
            row = mixed_row(length, length)
            with self.subTest(length=length):
                for one, two in itertools.product(range(length), repeat=2):
                    self.assert_day(row, [("swap", one, two)])

    def test_a_number_that_was_least_or_greatest_is_forgotten(self):
        row = [1, 2, -50, 3, 50, 4, 5]
        deeds = [("least", 0, 7), ("set", 2, 6), ("least", 0, 7)]
        deeds += [("greatest", 0, 7), ("add", 4, -47), ("greatest", 0, 7)]
        self.assert_same(answers(row, deeds), [-50, -50, 1, 50, 3, 6])


class AsksTest(DayCase):
    def test_an_ordinary_row(self):
        row = [2, -5, 4, 3]
        deeds = [("sum", 0, 4), ("least", 0, 4), ("greatest", 0, 4), ("sum", 1, 3), ("least", 2, 4), ("greatest", 0, 2)]
        self.assert_same(answers(row, deeds), [4, -5, 4, -1, 3, 2])

    def test_every_stretch_of_rows_of_many_lengths(self):
        for length in MANY_LENGTHS + [63, 64, 65]:
            row = mixed_row(length, length)
            with self.subTest(length=length):
                deeds = asks_of(every_stretch(length))
                self.assert_same(answers(row, deeds), plain_day(row, deeds)[0])

    def test_every_stretch_behind_changes(self):
        for length in (1, 2, 3, 4, 5, 8, 13, 16, 17):
            row = mixed_row(length, length)
            changes = [("set", place, 60 - 9 * place) for place in range(0, length, 2)]
            changes += [("add", place, -70) for place in range(0, length, 3)] + [("swap", 0, length - 1)]
            with self.subTest(length=length):
                deeds = changes + asks_of(every_stretch(length))
                self.assert_same(answers(row, deeds), plain_day(row, deeds)[0])

    def test_stretches_of_a_row_of_five_hundred(self):
        row = mixed_row(500)
        edges = (0, 1, 2, 62, 63, 125, 249, 250, 251, 313, 374, 375, 498, 499, 500)
        deeds = asks_of(itertools.combinations(edges, 2))
        self.assert_same(answers(row, deeds), plain_day(row, deeds)[0])

    def test_asks_change_nothing(self):
        row = mixed_row(20)
        deeds = asks_of(every_stretch(20)) + reaches_of(row, range(20))
        self.assert_same(row_behind(row, deeds), row)
        self.assert_same(tree_behind(row, deeds), plain_tree(row))


class ReachTest(DayCase):
    def assert_reaches(self, row, deeds):
        self.assert_same(answers(row, deeds), plain_day(row, deeds)[0])

    def test_an_ordinary_row(self):
        row = [2, -5, 4, 3]
        deeds = [("reach", 0, 2), ("reach", 0, 3), ("reach", 0, 4), ("reach", 0, 5), ("reach", 1, 2), ("reach", 2, 5)]
        self.assert_same(answers(row, deeds), [0, 3, 3, None, 3, 3])

    def test_the_first_place_of_several(self):
        row = [5, -5, 5, -5, 5]
        self.assert_same(answers(row, [("reach", start, 5) for start in range(5)]), [0, None, 2, None, 4])
        self.assert_same(answers(row, [("reach", start, 0) for start in range(5)]), [0, 2, 2, 4, 4])

    def test_the_place_itself_is_counted(self):
        self.assert_same(answers([3, 3, 3], [("reach", 1, 3), ("reach", 1, 4), ("reach", 2, 3)]), [1, 2, 2])

    def test_numbers_ahead_of_the_start_do_not_count(self):
        row = [100, 1, 1, 1]
        self.assert_same(answers(row, [("reach", 1, 3), ("reach", 1, 4), ("reach", 2, 3)]), [3, None, None])
        row = [-100, 1, 1, 1]
        self.assert_same(answers(row, [("reach", 1, 3), ("reach", 1, 4), ("reach", 0, -98)]), [3, None, 2])

    def test_marks_of_nought_and_below(self):
        row = [-4, -3, 5, -9]
        deeds = [("reach", 0, -4), ("reach", 0, -5), ("reach", 0, -3)]
        deeds += [("reach", 0, 0), ("reach", 1, 0), ("reach", 3, -9)]
        self.assert_same(answers(row, deeds), [0, 0, 2, None, 2, 3])
        self.assert_same(answers([-4], [("reach", 0, 0), ("reach", 0, -HUGE)]), [None, 0])
        self.assert_same(answers([0, 0], [("reach", 0, 0), ("reach", 1, 0), ("reach", 0, 1)]), [0, 1, None])

    def test_a_mark_that_no_place_reaches(self):
        for length in MANY_LENGTHS + [500]:
            row = mixed_row(length, length)
            deeds = [("reach", start, 83 * length) for start in range(length)]
            self.assert_same(answers(row, deeds), [None] * length)

    def test_every_start_and_every_running_sum(self):
        for length in MANY_LENGTHS:
            for seed in range(3):
                row = mixed_row(length, seed)
                with self.subTest(length=length, seed=seed):
                    self.assert_reaches(row, reaches_of(row, range(length)))

    def test_rows_that_only_rise_or_fall(self):
        for length in MANY_LENGTHS:
            for row in ([1] * length, [-1] * length, [0] * length):
                self.assert_reaches(row, reaches_of(row, range(length)))

    def test_every_small_row(self):
        for length in range(1, 6):
            for numbers in itertools.product((-2, 0, 1), repeat=length):
                marks = range(-5, 6)
                self.assert_reaches(list(numbers), list(itertools.product(("reach",), range(length), marks)))

    def test_behind_changes(self):
        for length in (1, 2, 3, 7, 8, 9, 16, 17):
            row = mixed_row(length, length)
            changes = [("add", place, 25 - place) for place in range(length)] + [("swap", 0, length - 1)]
            row_then = plain_day(row, changes)[1]
            self.assert_reaches(row, changes + reaches_of(row_then, range(length)))

    def test_a_row_of_five_hundred(self):
        row = mixed_row(500)
        self.assert_reaches(row, reaches_of(row, (0, 1, 249, 250, 251, 498, 499)))


class NoneTest(DayCase):
    def assert_nothing_done(self, row, deeds):
        self.assert_same(answers(row, deeds), [None] * len(deeds))
        self.assert_same(row_behind(row, deeds), row)
        self.assert_same(tree_behind(row, deeds), plain_tree(row))

    def test_places_that_are_not_there(self):
        for kind in ("set", "add"):
            for place in (-1, -2, -3, -4, 3, 4, 300, -300, HUGE, -HUGE):
                self.assert_nothing_done([2, -5, 4], [(kind, place, 7)])

    def test_a_swap_of_which_only_one_place_is_there(self):
        for there in range(3):
            for place in (-1, -3, -4, 3, 4, 300, -300):
                self.assert_nothing_done([2, -5, 4], [("swap", there, place)])
                self.assert_nothing_done([2, -5, 4], [("swap", place, there)])

    def test_a_swap_of_which_no_place_is_there(self):
        for one, two in itertools.product((-1, -3, 3, 300), repeat=2):
            self.assert_nothing_done([2, -5, 4], [("swap", one, two)])

    def test_stretches_that_are_none(self):
        wrong = [(1, 1), (0, 0), (3, 3), (2, 1), (3, 0), (0, -1)]
        wrong += [(-1, 2), (-1, 3), (-3, -1), (0, 4), (2, 4), (3, 4), (4, 5)]
        self.assert_nothing_done([2, -5, 4], asks_of(wrong))

    def test_a_reach_that_starts_at_no_place(self):
        for start in (-1, -2, -3, 3, 4, 300, -300):
            self.assert_nothing_done([2, -5, 4], [("reach", start, mark) for mark in (-100, -1, 0, 1, 2, 100)])

    def test_rows_of_many_lengths(self):
        for length in MANY_LENGTHS:
            with self.subTest(length=length):
                self.assert_nothing_done(mixed_row(length, length), deeds_without_answer(length))

    def test_a_row_of_five_hundred(self):
        self.assert_nothing_done(mixed_row(500), deeds_without_answer(500))

    def test_the_day_goes_on_behind_them(self):
        deeds = [("set", 3, 1), ("add", 0, 1), ("swap", 0, -1), ("sum", 0, 4), ("sum", 0, 3), ("swap", 0, 2)]
        self.assert_same(answers([2, -5, 4], deeds), [None, 3, None, None, 2, True])
        self.assert_same(row_behind([2, -5, 4], deeds), [4, -5, 3])


class DaysTest(DayCase):
    def test_a_day_without_a_deed(self):
        for length in MANY_LENGTHS + [500]:
            row = mixed_row(length, length)
            self.assert_same(answers(row, []), [])
            self.assert_same(row_behind(row, []), row)
            self.assert_same(tree_behind(row, []), plain_tree(row))

    def test_the_tree_over_three_places(self):
        self.assert_same(tree_behind([2, -5, 4], []), [
            (0, 3, 1, -5, 4, 2), (0, 2, -3, -5, 2, 2), (0, 1, 2, 2, 2, 2), (1, 2, -5, -5, -5, -5), (2, 3, 4, 4, 4, 4),
        ])

    def test_a_row_of_one_number(self):
        deeds = [("set", 0, -3), ("add", 0, 1), ("swap", 0, 0), ("sum", 0, 1), ("least", 0, 1), ("greatest", 0, 1)]
        deeds += [("reach", 0, -2), ("reach", 0, -1), ("set", 1, 5), ("sum", 0, 2), ("sum", 1, 1)]
        self.assert_same(answers([8], deeds), [8, -2, True, -2, -2, -2, 0, None, None, None, None])
        self.assert_same(row_behind([8], deeds), [-2])
        self.assert_same(tree_behind([8], deeds), [(0, 1, -2, -2, -2, -2)])

    def test_every_two_deeds_on_small_rows(self):
        for row in ([3], [3, -4], [-1, 2, 2]):
            length = len(row)
            places = range(-1, length + 2)
            changes = list(itertools.product(("set", "add"), places, (-2, 5)))
            changes += list(itertools.product(("swap",), places, places))
            for first, second in itertools.product(changes, repeat=2):
                self.assert_day(row, [first, second])

    def test_whole_days_on_rows_of_many_lengths(self):
        for length in MANY_LENGTHS + [63, 64, 65, 127, 128, 129, 255, 256, 257, 499, 500]:
            for seed in range(3):
                with self.subTest(length=length, seed=seed):
                    self.assert_day(mixed_row(length, seed), mixed_day(length, WHOLE_DAY, seed))

    def test_the_tree_behind_every_deed(self):
        for length in (1, 2, 3, 5, 8, 11, 16, 17):
            row = mixed_row(length, length)
            deeds = mixed_day(length, 80, 7)
            for done in range(len(deeds) + 1):
                with self.subTest(length=length, done=done):
                    self.assert_day(row, deeds[:done])

    def test_numbers_of_a_hundred_and_twenty_figures(self):
        row = [HUGE, -HUGE, HUGE - 1]
        deeds = [("sum", 0, 2), ("sum", 0, 3), ("least", 0, 3), ("greatest", 1, 3)]
        deeds += [("add", 0, HUGE), ("set", 1, -HUGE + 1)]
        deeds += [("reach", 0, 2 * HUGE), ("reach", 0, 2 * HUGE + 1), ("reach", 1, 0), ("reach", 1, 1), ("swap", 0, 2)]
        told = [0, HUGE - 1, -HUGE, HUGE - 1, 2 * HUGE, -HUGE, 0, None, 2, None, True]
        self.assert_same(answers(row, deeds), told)
        self.assert_day(row, deeds)

    def test_whole_days_of_numbers_of_a_hundred_and_twenty_figures(self):
        for length in (1, 2, 3, 16, 33, 500):
            row = huge_row(length)
            self.assert_day(row, mixed_day(length, WHOLE_DAY, 5, HUGE // 60))
            starts = sorted({0, length // 2, length - 1})
            self.assert_day(row, reaches_of(row[:40], [start for start in starts if start < 40]))

    def test_somewhat_beyond_the_bounds_is_not_refused(self):
        self.assert_day(mixed_row(700), mixed_day(700, 400))
        deeds = [("add", 2, BEYOND), ("reach", 0, BEYOND), ("reach", 1, 1), ("sum", 0, 3)]
        self.assert_day([BEYOND, -BEYOND, 1], deeds)


class HandedInTest(DayCase):
    def days(self):
        for length in (1, 2, 3, 16, 33, 500):
            yield mixed_row(length), mixed_day(length, WHOLE_DAY, 3)
            yield mixed_row(length), []

    def test_row_and_deeds_are_not_changed(self):
        for work in (answers, row_behind, tree_behind):
            for row, deeds in self.days():
                row_ahead, deeds_ahead = copy.deepcopy(row), copy.deepcopy(deeds)
                work(row, deeds)
                self.assert_same(row, row_ahead)
                self.assert_same(deeds, deeds_ahead)

    def test_two_calls_answer_the_same(self):
        for work in (answers, row_behind, tree_behind):
            for row, deeds in self.days():
                self.assert_same(work(row, deeds), work(row, deeds))

    def test_what_is_given_back_is_a_new_list(self):
        for work in (answers, row_behind, tree_behind):
            for row, deeds in self.days():
                row_ahead = list(row)
                first = work(row, deeds)
                told = list(first)
                self.assertIsNot(first, row)
                self.assertIsNot(first, deeds)
                first.append(99)
                first[0] = 98
                self.assert_same(row, row_ahead)
                self.assert_same(work(row, deeds), told)


class NoWholeRowTest(unittest.TestCase):
    def steps_of(self, row, deeds):
        Counted.steps = 0
        answers([Counted(number) for number in row], deeds)
        return Counted.steps

    def test_no_deed_needs_the_whole_row(self):
        # A deed that walked the row would count close to five hundred steps for it; the tree is nine halvings deep.
        row = mixed_row(500)
        ahead = self.steps_of(row, [])
        self.assertGreaterEqual(ahead, 499)
        deeds = [(kind, place, Counted(5)) for kind in ("set", "add") for place in (0, 249, 250, 499)]
        deeds += [("swap", 0, 499), ("swap", 249, 250)]
        deeds += asks_of([(0, 500), (1, 499), (0, 499), (1, 500), (249, 251), (120, 380)])
        deeds += [("reach", start, mark) for start in (0, 1, 250, 499) for mark in (-10 ** 6, 0, 40, 300, 10 ** 6)]
        for deed in deeds:
            with self.subTest(deed=deed):
                self.assertLess(self.steps_of(row, [deed]) - ahead, 200)


if __name__ == "__main__":
    unittest.main()
