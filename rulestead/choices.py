"""Least choices among some things."""
from itertools import combinations


def least_choices(many, holds):
    """The tuples of places below `many` for which `holds` is True, and for no proper part of them.

    The smaller ones stand first, those of one size in the order of their places.
    """
    least = []
    for size in range(many + 1):
        for places in combinations(range(many), size):
            beyond = any([all([at in places for at in known]) for known in least])
            if not beyond and holds(places):
                least.append(places)
    return least
