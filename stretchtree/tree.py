"""The tree over a row: for each of its stretches the part of the numbers there."""

from stretchtree.parts import REACH, TOTAL, joined, part_of_one
from stretchtree.shape import middle_of, stretches


class Tree:
    """The parts of the stretches over a row; the row itself is kept in the stretches of one place."""

    def __init__(self, row):
        self.length = len(row)
        self.parts = {}
        # From the last stretch to the first, so that both halves of a stretch are there ahead of it.
        for stretch in reversed(stretches(self.length)):
            self.parts[stretch] = self.part_at_first(row, stretch[0], stretch[1])

    def part_at_first(self, row, start, stop):
        """The part of a stretch of the tree while the tree is built."""
        if stop - start == 1:
            return part_of_one(row[start])
        return self.part_from_halves(start, stop)

    def part_from_halves(self, start, stop):
        """The part of a stretch of the tree with two places or more, told from its halves."""
        middle = middle_of(start, stop)
        return joined(self.parts[(start, middle)], self.parts[(middle, stop)])

    def has_place(self, place):
        """Whether the place is one of the row."""
        return 0 <= place < self.length

    def has_stretch(self, start, stop):
        """Whether (start, stop) is a stretch of the row."""
        return 0 <= start < stop <= self.length

    def number_at(self, place):
        """The number that the row has at a place."""
        return self.parts[(place, place + 1)][TOTAL]

    def numbers(self):
        """All numbers of the row, in a new list."""
        return [self.number_at(place) for place in range(self.length)]

    def lines(self):
        """For each stretch of the tree (start, stop, total, least, greatest, reach), in their order."""
        return [stretch + self.parts[stretch] for stretch in stretches(self.length)]

    def put(self, place, number):
        """Makes the number at a place another one."""
        self.put_within(0, self.length, place, number)

    def put_within(self, start, stop, place, number):
        """Makes the number at a place within a stretch of the tree another one."""
        if stop - start == 1:
            self.parts[(start, stop)] = part_of_one(number)
            return
        middle = middle_of(start, stop)
        if place < middle:
            self.put_within(start, middle, place, number)
        else:
            self.put_within(middle, stop, place, number)
        self.parts[(start, stop)] = self.part_from_halves(start, stop)

    def part_over(self, begin, end):
        """The part of the numbers in a stretch of the row."""
        return self.part_within(0, self.length, begin, end)

    def part_within(self, start, stop, begin, end):
        """The part of the numbers from begin to end, all of them within the tree's stretch (start, stop)."""
        if start == begin and stop == end:
            return self.parts[(start, stop)]
        middle = middle_of(start, stop)
        if end <= middle:
            return self.part_within(start, middle, begin, end)
        if begin >= middle:
            return self.part_within(middle, stop, begin, end)
        left = self.part_within(start, middle, begin, middle)
        right = self.part_within(middle, stop, middle, end)
        return joined(left, right)

    def place_reaching(self, begin, mark):
        """The first place from begin on where the sum from begin on is the mark or more, or None."""
        # The tree's running sums begin at the row's first place, so the mark is moved there too.
        return self.reaching_within(0, self.length, begin, mark + self.total_ahead_of(begin))

    def total_ahead_of(self, place):
        """The sum of the numbers ahead of a place."""
        if place == 0:
            return 0
        return self.part_over(0, place)[TOTAL]

    def reaching_within(self, start, stop, begin, mark):
        """The first place of the tree's stretch, from begin on, where the sum from start on is the mark or more."""
        if stop <= begin or self.parts[(start, stop)][REACH] < mark:
            return None
        if stop - start == 1:
            return start
        middle = middle_of(start, stop)
        place = self.reaching_within(start, middle, begin, mark)
        if place is None:
            rest = mark - self.parts[(start, middle)][TOTAL]
            place = self.reaching_within(middle, stop, begin, rest)
        return place
