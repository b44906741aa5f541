"""The fewest things told without which the others can be.

A node is wrong by two things told at most: each basic one in its profile, and each edge that follows, comes of
one of them. So the others can be just if no two of them are at odds, and none is by itself.
"""

from whatmustbe.certain import can_be


def impossible_ones(told, laws):
    """The numbers of the things told that can't be even alone."""
    return [n for n, thing in enumerate(told) if not can_be([thing], laws)]


def later_foes(told, laws):
    """For each thing told, by its number, the higher numbers of those that can't be together with it."""
    table = {}
    for n in range(len(told)):
        table[n] = [m for m in range(n + 1, len(told)) if not can_be([told[n], told[m]], laws)]
    return table


def first_row(foes, left):
    """The fewest of those left, which rise, without which no two of the others are foes; of as few the first row.

    They are given back in no order.
    """
    if len(left) == 0:
        return []
    rest = left[1:]
    against = [m for m in rest if m in foes[left[0]]]
    if len(against) == 0:
        return first_row(foes, rest)
    without = [left[0]] + first_row(foes, rest)
    # If it stays, all its foes go.
    staying = against + first_row(foes, [m for m in rest if m not in against])
    # Of as many the first row is the one that begins with the lowest number of all.
    return without if len(without) <= len(staying) else staying


def fewest_to_drop(told, laws):
    """The numbers of the fewest things told without which the others can be, rising; of as few the first row."""
    alone = impossible_ones(told, laws)
    left = [n for n in range(len(told)) if n not in alone]
    return sorted(alone + first_row(later_foes(told, laws), left))
