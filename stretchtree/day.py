"""A day: deeds that are done on a row one by one, and answered."""

from stretchtree.parts import GREATEST, LEAST, TOTAL
from stretchtree.tree import Tree


def answers(row, deeds):
    """The answers of a day, one for each deed."""
    tree = Tree(row)
    return [answer_to(tree, deed) for deed in deeds]


def row_behind(row, deeds):
    """The row behind a day."""
    return tree_of_day(row, deeds).numbers()


def tree_behind(row, deeds):
    """For each stretch of the tree (start, stop, total, least, greatest, reach) behind a day."""
    return tree_of_day(row, deeds).lines()


def tree_of_day(row, deeds):
    """The tree over the row behind a day."""
    tree = Tree(row)
    for deed in deeds:
        answer_to(tree, deed)
    return tree


def answer_to(tree, deed):
    """Does one deed, and answers it."""
    kind = deed[0]
    if kind == "set":
        return set_number(tree, deed[1], deed[2])
    if kind == "add":
        return add_to_number(tree, deed[1], deed[2])
    if kind == "swap":
        return swap_numbers(tree, deed[1], deed[2])
    if kind == "sum":
        return told_of_stretch(tree, deed[1], deed[2], TOTAL)
    if kind == "least":
        return told_of_stretch(tree, deed[1], deed[2], LEAST)
    if kind == "greatest":
        return told_of_stretch(tree, deed[1], deed[2], GREATEST)
    return place_reached(tree, deed[1], deed[2])


def set_number(tree, place, value):
    """Makes the number at a place the value; answers the number that was there."""
    if not tree.has_place(place):
        return None
    old = tree.number_at(place)
    tree.put(place, value)
    return old


def add_to_number(tree, place, value):
    """Makes the number at a place grow by the value; answers the number that is there then."""
    if not tree.has_place(place):
        return None
    grown = tree.number_at(place) + value
    tree.put(place, grown)
    return grown


def swap_numbers(tree, one, two):
    """Lets the numbers at two places change their places; answers True."""
    if not tree.has_place(one) or not tree.has_place(two):
        return None
    number_at_one = tree.number_at(one)
    tree.put(one, tree.number_at(two))
    tree.put(two, number_at_one)
    return True


def told_of_stretch(tree, start, stop, which):
    """One of the numbers of the part of a stretch."""
    if not tree.has_stretch(start, stop):
        return None
    return tree.part_over(start, stop)[which]


def place_reached(tree, start, mark):
    """The first place from start on where the sum from start on is the mark or more, or None."""
    if not tree.has_place(start):
        return None
    return tree.place_reaching(start, mark)
