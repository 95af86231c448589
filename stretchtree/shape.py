"""The shape of the tree: which stretches it has, and in which order."""


def stretches(count):
    """The stretches of the tree over so many places, a stretch ahead of its halves."""
    return stretches_within(0, count)


def stretches_within(start, stop):
    """The stretch (start, stop), its left half with all its own halves, then its right half likewise."""
    if stop - start < 2:
        return [(start, stop)]
    middle = middle_of(start, stop)
    return [(start, stop)] + stretches_within(start, middle) + stretches_within(middle, stop)


def middle_of(start, stop):
    """The place where the left half of a stretch stops and its right half begins."""
    # Rounded up, since the odd place belongs to the left half.
    return (start + stop + 1) // 2
